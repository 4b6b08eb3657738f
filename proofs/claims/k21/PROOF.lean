import PyProof.Rows.All
import Wide.All
import OpenK.AllK
import Wide.FinOn
import Lean
import PyProof.EqAt
import PyProof.EqKinds
import PyProof.TupleCall
import PySem.Challenge.RW_rimread_k21_points_taken_out
set_option Elab.async false
set_option linter.all false
set_option maxRecDepth 100000
set_option maxHeartbeats 4000000
namespace L2
open PySem PySem.Spec PyProof.Rows
abbrev Key := Sum Int Str
def keyIs : Key → Value → Bool
 | .inl k, v => Value.isInt k v
 | .inr x, v => Value.isStrOf x v
def keyH (w : World) : Key → Int
 | .inl k => hashInt k
 | .inr x => hashStr w x
theorem aX_ : ∀ {k : Key} {v : Value}, keyIs k v = true → (∃ i t, k = Sum.inl i ∧ v = Value.int i t) ∨ (∃ x t, k = Sum.inr x ∧ v = Value.str x t)
 | .inl i, v, h => by
  obtain ⟨t, e⟩ := Value.isInt_shape (k := i) (v := v) h
  exact .inl ⟨i, t, rfl, e⟩
 | .inr x, v, h => by
  obtain ⟨t, e⟩ := Value.isStrOf_shape (x := x) (v := v) h
  exact .inr ⟨x, t, rfl, e⟩
theorem kG_ (i : Int) (t : Tok) : keyIs (.inl i) (.int i t) = true := by simp [keyIs, Value.isInt]
theorem kH_ (x : Str) (t : Tok) : keyIs (.inr x) (.str x t) = true := by simp [keyIs, Value.isStrOf]
theorem nK_ (a b : Int) : decide ((Sum.inl a : Key) = Sum.inl b) = (a == b) := by
 by_cases e : a = b
 ·subst e; simp
 ·have h : ¬ (Sum.inl a : Key) = Sum.inl b := fun q => e (Sum.inl.inj q)
  rw [decide_eq_false h]
  exact (beq_eq_false_iff_ne.mpr e).symm
theorem nL_ (a b : Str) : decide ((Sum.inr a : Key) = Sum.inr b) = decide (a = b) := by
 by_cases e : a = b
 ·subst e; simp
 ·have h : ¬ (Sum.inr a : Key) = Sum.inr b := fun q => e (Sum.inr.inj q)
  rw [decide_eq_false h, decide_eq_false e]
theorem nM_ (a : Int) (b : Str) : decide ((Sum.inl a : Key) = Sum.inr b) = false := decide_eq_false (fun q => nomatch q)
theorem nN_ (a : Str) (b : Int) : decide ((Sum.inr a : Key) = Sum.inl b) = false := decide_eq_false (fun q => nomatch q)
def mixKind (prog : Program) (w : World) : PySem.KeyKind prog w Key where
 is := keyIs
 hash := keyH w
 inj := fun v a b ha hb => by
  rcases aX_ ha with ⟨i, t, rfl, rfl⟩ | ⟨x, t, rfl, rfl⟩
  ·rcases aX_ hb with ⟨j, u, rfl, e⟩ | ⟨y, u, rfl, e⟩
   ·injection e with e1 _; rw [e1]
   ·exact nomatch e
  ·rcases aX_ hb with ⟨j, u, rfl, e⟩ | ⟨y, u, rfl, e⟩
   ·exact nomatch e
   ·injection e with e1 _; rw [e1]
 byValue := fun k v h => by
  rcases aX_ h with ⟨i, t, rfl, rfl⟩ | ⟨x, t, rfl, rfl⟩ <;> rfl
 pyHash := fun hv h => by
  rcases aX_ hv with ⟨i, t, rfl, rfl⟩ | ⟨x, t, rfl, rfl⟩
  ·exact wpAny_pyHash_int h
  ·exact wpAny_pyHash_str h
 eqBool := fun hu hv h => by
  rcases aX_ hu with ⟨i, t, rfl, rfl⟩ | ⟨x, t, rfl, rfl⟩
  ·rcases aX_ hv with ⟨j, u, rfl, rfl⟩ | ⟨y, u, rfl, rfl⟩
   ·rw [nK_] at h; exact wpAny_eqBool_int h
   ·rw [nM_] at h; exact SeqAt.EqAt.int_str i t y u _ _ _ _ h
  ·rcases aX_ hv with ⟨j, u, rfl, rfl⟩ | ⟨y, u, rfl, rfl⟩
   ·rw [nN_] at h; exact SeqAt.EqAt.str_int x t j u _ _ _ _ h
   ·rw [nL_] at h; exact wpAny_eqBool_str h
 «strs» := fun k x t v h => by
  rcases aX_ h with ⟨i, u, rfl, e⟩ | ⟨y, u, rfl, e⟩
  ·exact nomatch e
  ·injection e with e1 _
   subst e1
   cases v <;> rfl
theorem i4_ (prog : Program) (w : World) (i : Int) (t : Tok) : (mixKind prog w).is (.inl i) (.int i t) = true := kG_ i t
theorem i5_ (prog : Program) (w : World) (x : Str) (t : Tok) : (mixKind prog w).is (.inr x) (.str x t) = true := kH_ x t
end L2
namespace L2
open PySem PySem.Spec PyProof.Rows
inductive V where
 | non | bl (b : Bool) | int (i : Int) | str (x : Str) | byt (b : Array UInt8) | flt (b : UInt64) | ref (a : Addr) | ty (n : String)
 deriving DecidableEq
def RelV : V → Value → Prop
 | .non, u => u = Value.none
 | .bl b, u => u = Value.bool b
 | .int i, u => ∃ t, u = Value.int i t
 | .str x, u => ∃ t, u = Value.str x t
 | .byt b, u => ∃ t, u = Value.bytes b t
 | .flt b, u => ∃ t, u = Value.float b t
 | .ref a, u => u = Value.ref a
 | .ty n, u => u = Value.type n
abbrev Vals : List V → List Value → Prop := Paired RelV
theorem Vals.length {xs : List V} {us : List Value} (r : Vals xs us) : xs.length = us.length := Paired.length r
theorem Vals.get : ∀ {xs : List V} {us : List Value} {i : Nat} {x : V}, Vals xs us → xs[i]? = some x → ∃ u, us[i]? = some u ∧ RelV x u
 | _, _, _, _, .nil, e => by simp at e
 | _, _, 0, _, .cons r _, e => by simp at e; subst e; exact ⟨_, rfl, r⟩
 | _, _, i + 1, x, .cons _ t, e => by
  obtain ⟨u, h1, h2⟩ := Vals.get (i := i) (x := x) t (by simpa using e)
  exact ⟨u, by simpa using h1, h2⟩
theorem Vals.set {x : V} {u : Value} (r : RelV x u) : ∀ {xs : List V} {us : List Value} (i : Nat), Vals xs us → Vals (xs.set i x) (us.set i u)
 | _, _, _, .nil => .nil
 | _, _, 0, .cons _ t => .cons r t
 | _, _, i + 1, .cons q t => .cons q (Vals.set r i t)
theorem Vals.append : ∀ {xs ys : List V} {us ws : List Value}, Vals xs us → Vals ys ws → Vals (xs ++ ys) (us ++ ws)
 | _, _, _, _, .nil, s => s
 | _, _, _, _, .cons r t, s => .cons r (Vals.append t s)
theorem Vals.take : ∀ {xs : List V} {us : List Value} (n : Nat), Vals xs us → Vals (xs.take n) (us.take n)
 | _, _, 0, _ => .nil
 | _, _, _ + 1, .nil => .nil
 | _, _, n + 1, .cons r t => .cons r (Vals.take n t)
theorem Vals.drop : ∀ {xs : List V} {us : List Value} (n : Nat), Vals xs us → Vals (xs.drop n) (us.drop n)
 | _, _, 0, r => r
 | _, _, _ + 1, .nil => .nil
 | _, _, n + 1, .cons _ t => Vals.drop n t
def RelO : Option V → Option Value → Prop
 | some v, some u => RelV v u
 | none, none => True
 | _, _ => False
def KV {κ : Type} : List (κ × V) → List (κ × Value) → Prop := Paired fun (p : κ × V) (q : κ × Value) => p.1 = q.1 ∧ RelV p.2 q.2
def kV : Key → V
 | .inl i => .int i
 | .inr x => .str x
inductive HO where
 | lst (xs : List V)
 | tup (xs : List V)
 | dK (kvs : List (Key × V)) | dT (kvs : List (List Key × V))
 | set (S : Int → Bool) (n : Nat)
 | ins (C dx : Addr) (fs : List (Str × V))
 | own (x : Addr)
 | xd (fs : List (Str × V))
 | met (f x : Addr)
 | rng (lo hi : Int)
 | frz (o : Obj) (u : HO)
 | tbl (ps : Array Value)
 | ext (φ : Heap → Prop)
abbrev Hp := Addr → Option HO
def upd (H : Hp) (a : Addr) (o : HO) : Hp := fun b => if b = a then some o else H b
theorem ac_ {H : Hp} {a : Addr} {o : HO} : upd H a o a = some o := by unfold upd; rw [if_pos rfl]
theorem af_ {H : Hp} {a b : Addr} {o : HO} (h : b ≠ a) : upd H a o b = H b := by unfold upd; rw [if_neg h]
theorem mT_ {H : Hp} {a : Addr} {o u : HO} : upd (upd H a o) a u = upd H a u := by
 funext b; unfold upd; split <;> rfl
theorem ne_of {H : Hp} {a b : Addr} {o u : HO} (h : H a = some o) (h' : H b = some u) (d : o ≠ u) : a ≠ b := by
 intro e; subst e; rw [h] at h'; exact d (Option.some.inj h')
theorem ag_ {H : Hp} {a b : Addr} {o : HO} (h : H a = some o) (h' : H b = none) : a ≠ b := by
 intro e; subst e; rw [h] at h'; cases h'
section
variable (P : Program) (w : World)
def ObjOk (H : Hp) (h : Heap) (a : Addr) : HO → Prop
 | .lst xs => xs.length ≤ sizeLine ∧ ∃ (its : List Value) (n : Nat), Vals xs its ∧ h.get? a = some { cls := .type "list", data := .seq its.toArray n }
 | .tup xs => xs.length ≤ sizeLine ∧ ∃ its : List Value, Vals xs its ∧ IsTup h a its.toArray
 | .dK kvs => kvs.length ≤ sizeLine ∧ (a == sysModules) = false ∧ ∃ vs, KV kvs vs ∧ h.DictOf (mixKind P w) a vs
 | .dT kvs => kvs.length ≤ sizeLine ∧ (a == sysModules) = false ∧ ∃ xs : List (List Key × Addr × Value),
   Paired (fun (p : List Key × V) (q : List Key × Addr × Value) => p.1 = q.1 ∧ H q.2.1 = some (.tup (p.1.map kV)) ∧ RelV p.2 q.2.2) kvs xs ∧
   ∃ o es ep, h.get? a = some o ∧ o.ExactDict ∧ o.data = .dict es ep ∧ es.toList = xs.map (entryOfKey (tupleKind (mixKind P w))) ∧ (xs.map (·.1)).Nodup
 | .set S n => h.SetOf (intKind P w) a S n
 | .ins C dx fs => H dx = some (.own a) ∧ fs.length ≤ 1000 ∧ dx ≠ a ∧ h.get? a = some (PySem.W.instObj C dx) ∧
   ∃ mA, h.Ns1 dx mA ∧ (∀ f, RelO (fs.lookup f) (mA f)) ∧ PySem.Within mA (fs.map (·.1))
 | .own _ => ∃ o, h.get? a = some o
 | .xd fs => ∃ mA, h.Ns1 a mA ∧ ∀ f, RelO (fs.lookup f) (mA f)
 | .rng lo hi => ∃ t u v, h.get? a = some { cls := .type "range", data := .fields #[.int lo t, .int hi u, .int 1 v] }
 | .frz o u => h.get? a = some o ∧ ObjOk H h a u
 | .tbl ps => h.get? a = some { cls := .none, data := .fields ps }
 | .met f x => h.get? a = some (PySem.W.methodObj (.ref f) (.ref x))
 | .ext φ => φ h ∧ (∃ o, h.get? a = some o) ∧ ∀ h1 h2 : Heap, φ h1 → (∀ o, h1.get? a = some o → h2.get? a = some o) → φ h2
def HOk (H : Hp) (h : Heap) : Prop := ∀ a o, H a = some o → ObjOk P w H h a o
end
section
variable {P : Program} {w : World} {H H' : Hp} {h h' : Heap} {a : Addr} {o : HO}
theorem ObjOk.lt (x : ObjOk P w H h a o) : a < h.objs.size := by
 cases o with
 | lst xs => obtain ⟨_, _, _, _, e⟩ := x; exact Heap.lt_size e
 | tup xs => obtain ⟨_, _, _, p⟩ := x; exact p.lt
 | dK kvs => obtain ⟨_, _, _, _, o, _, _, e, _⟩ := x; exact Heap.lt_size e
 | dT kvs => obtain ⟨_, _, _, _, o, _, _, e, _⟩ := x; exact Heap.lt_size e
 | set S n => obtain ⟨o, _, _, _, e, _⟩ := x; exact Heap.lt_size e
 | ins C dx fs => obtain ⟨_, _, _, e, _⟩ := x; exact Heap.lt_size e
 | own y => obtain ⟨_, e⟩ := x; exact Heap.lt_size e
 | xd fs => obtain ⟨_, ⟨_, _, _, e, _⟩, _⟩ := x; exact Heap.lt_size e
 | rng lo hi => obtain ⟨_, _, _, e⟩ := x; exact Heap.lt_size e
 | frz ob u => obtain ⟨e, _⟩ := x; exact Heap.lt_size e
 | tbl ps => exact Heap.lt_size (show h.get? a = some _ from x)
 | met f y => exact Heap.lt_size (show h.get? a = some _ from x)
 | ext φ => obtain ⟨_, ⟨_, e⟩, _⟩ := x; exact Heap.lt_size e
theorem Paired.mapP {α β : Type} {F G : α → β → Prop} : ∀ {l₁ : List α} {l₂ : List β}, Paired F l₁ l₂ → (∀ a b, F a b → G a b) → Paired G l₁ l₂
 | _, _, .nil, _ => .nil
 | _, _, .cons r t, f => .cons (f _ _ r) (Paired.mapP t f)
theorem ObjOk.stay (x : ObjOk P w H h a o) (k : ∀ b u, (b = a ∨ H b = some (.own a)) → h.get? b = some u → h'.get? b = some u)
  (ho : ∀ b, H b = some (.own a) → H' b = some (.own a)) (ht : ∀ b xs, H b = some (.tup xs) → H' b = some (.tup xs)) : ObjOk P w H' h' a o := by
 induction o with
 | lst xs => obtain ⟨z, its, n, r, e⟩ := x; exact ⟨z, its, n, r, k _ _ (.inl rfl) e⟩
 | tup xs => obtain ⟨z, its, r, ob, e, c⟩ := x; exact ⟨z, its, r, ob, k _ _ (.inl rfl) e, c⟩
 | dK kvs => obtain ⟨z, y, vs, r, ob, es, ep, e, c⟩ := x; exact ⟨z, y, vs, r, ob, es, ep, k _ _ (.inl rfl) e, c⟩
 | dT kvs =>
  obtain ⟨z, y, xs, r, ob, es, ep, e, c⟩ := x
  exact ⟨z, y, xs, Paired.mapP r fun p q z => ⟨z.1, ht _ _ z.2.1, z.2.2⟩, ob, es, ep, k _ _ (.inl rfl) e, c⟩
 | set S n => obtain ⟨ob, es, ep, t, e, c⟩ := x; exact ⟨ob, es, ep, t, k _ _ (.inl rfl) e, c⟩
 | ins C dx fs =>
  obtain ⟨d, z, ne, e, mA, ⟨od, es, ep, e2, c⟩, r⟩ := x
  exact ⟨ho _ d, z, ne, k _ _ (.inl rfl) e, mA, ⟨od, es, ep, k _ _ (.inr d) e2, c⟩, r⟩
 | own y => obtain ⟨ob, e⟩ := x; exact ⟨ob, k _ _ (.inl rfl) e⟩
 | xd fs => obtain ⟨mA, ⟨od, es, ep, e, c⟩, r⟩ := x; exact ⟨mA, ⟨od, es, ep, k _ _ (.inl rfl) e, c⟩, r⟩
 | rng lo hi => obtain ⟨t, u, v, e⟩ := x; exact ⟨t, u, v, k _ _ (.inl rfl) e⟩
 | frz ob u ih => obtain ⟨e, q⟩ := x; exact ⟨k _ _ (.inl rfl) e, ih q⟩
 | tbl ps =>
  have e : h.get? a = some { cls := .none, data := .fields ps } := x
  show h'.get? a = some { cls := .none, data := .fields ps }
  exact k a _ (.inl rfl) e
 | met f y =>
  have e : h.get? a = some (PySem.W.methodObj (.ref f) (.ref y)) := x
  show h'.get? a = some (PySem.W.methodObj (.ref f) (.ref y))
  exact k a _ (.inl rfl) e
 | ext φ => obtain ⟨p, ⟨o, e⟩, st⟩ := x; exact ⟨st _ _ p fun o q => k _ _ (.inl rfl) q, ⟨o, k _ _ (.inl rfl) e⟩, st⟩
theorem HOk.lt (x : HOk P w H h) (e : H a = some o) : a < h.objs.size := (x a o e).lt
theorem HOk.fresh (x : HOk P w H h) (e : h.objs.size ≤ a) : H a = none := by
 cases q : H a with
 | none => rfl
 | some u => exact absurd (Nat.lt_of_lt_of_le (x.lt q) e) (Nat.lt_irrefl _)
theorem HOk.kept (x : HOk P w H h) (k : ∀ b u, h.get? b = some u → h'.get? b = some u) : HOk P w H h' := fun a o e =>
 (x a o e).stay (fun b u _ q => k b u q) (fun _ q => q) fun _ _ q => q
theorem HOk.laid (x : HOk P w H h) (k : ∀ b u, h.get? b = some u → h'.get? b = some u) (hp : h.objs.size ≤ a) (new : ObjOk P w (upd H a o) h' a o) : HOk P w (upd H a o) h' := fun b u e => by
 have hn := x.fresh hp
 by_cases hb : b = a
 ·subst hb; rw [ac_] at e; cases e; exact new
 ·rw [af_ hb] at e
  exact (x b u e).stay (fun c v _ q => k c v q) (fun c q => by rw [af_ (ag_ q hn)]; exact q) fun c xs q => by rw [af_ (ag_ q hn)]; exact q
end
def Rd (H : Hp) (a : Addr) (u : HO) : Prop := H a = some u ∨ ∃ o, H a = some (.frz o u)
theorem Rd.of {H : Hp} {a : Addr} {u : HO} (h : H a = some u) : Rd H a u := .inl h
theorem Rd.ok {P : Program} {w : World} {H : Hp} {h : Heap} {a : Addr} {u : HO} (r : Rd H a u) (x : HOk P w H h) : ObjOk P w H h a u := by
 rcases r with r | ⟨o, r⟩
 ·exact x a u r
 ·obtain ⟨_, q⟩ := x a _ r
  exact q
def Mut : Option HO → Prop
 | some (.lst _) => True
 | some (.dK _) => True
 | some (.dT _) => True
 | some (.set _ _) => True
 | some (.ins _ _ _) => True
 | some (.ext _) => True
 | _ => False
section
variable {P : Program} {w : World} {H : Hp} {h h' : Heap} {x e : Addr} {o' : HO}
theorem HOk.write (ok : HOk P w H h) (mu : Mut (H x)) (he : e = x ∨ H e = some (.own x)) (k : ∀ b u, b ≠ e → h.get? b = some u → h'.get? b = some u) (heo : ∃ u, h'.get? e = some u)
  (new : ObjOk P w (upd H x o') h' x o') : HOk P w (upd H x o') h' := fun b u q => by
 have nown : ∀ c y, H c = some (.own y) → c ≠ x := fun c y r z => by subst z; rw [r] at mu; exact mu
 have ntup : ∀ c xs, H c = some (.tup xs) → c ≠ x := fun c xs r z => by subst z; rw [r] at mu; exact mu
 by_cases hb : b = x
 ·subst hb; rw [ac_] at q; cases q; exact new
 ·rw [af_ hb] at q
  by_cases hbe : b = e
  ·have q' : H b = some (.own x) := by
    rcases he with z | z
    ·exact absurd (hbe.trans z) hb
    ·rw [hbe]; exact z
   rw [q] at q'; cases q'
   obtain ⟨v, hv⟩ := heo
   exact ⟨v, by rw [hbe]; exact hv⟩
  ·refine (ok b u q).stay (fun c v hc r => k c v ?_ r) (fun c r => by rw [af_ (nown c b r)]; exact r) fun c xs r => by rw [af_ (ntup c xs r)]; exact r
   rcases hc with rfl | hc
   ·exact hbe
   ·rintro rfl
    rcases he with z | z
    ·exact nown c b hc z
    ·rw [hc] at z; cases z; exact hb rfl
end
structure Un (fs ex : List Addr) (H H' : Hp) (h h' : Heap) : Prop where
 keep : ∀ b o, h.get? b = some o → H b = none → b ∉ fs → b ∉ ex → h'.get? b = some o
 slot : ∀ b o, h.get? b = some o → H b = none → b ∈ fs → b ∉ ex → ∃ sl, h'.get? b = some { o with slots := sl }
 free : ∀ b o, h.get? b = some o → H b = none → b ∉ ex → H' b = none
 there : ∀ b o, h.get? b = some o → b ∉ ex → ∃ o', h'.get? b = some o'
 tups : ∀ b xs, H b = some (.tup xs) → H' b = some (.tup xs)
 frzs : ∀ b o u, H b = some (.frz o u) → H' b = some (.frz o u)
 tbls : ∀ b ps, H b = some (.tbl ps) → ∃ more, H' b = some (.tbl (ps ++ more))
section
variable {fs fs' ex ex' : List Addr} {H H1 H2 : Hp} {h h1 h2 h' : Heap} {a x e : Addr} {o : HO}
theorem Un.any (u : Un fs ex H H1 h h1) {b : Addr} {ob : Obj} (q : h.get? b = some ob) (n : H b = none) (hx : b ∉ ex) : ∃ sl, h1.get? b = some { ob with slots := sl } := by
 by_cases hb : b ∈ fs
 ·exact u.slot b ob q n hb hx
 ·exact ⟨ob.slots, u.keep b ob q n hb hx⟩
theorem Un.trans (a : Un fs ex H H1 h h1) (b : Un fs ex H1 H2 h1 h2) : Un fs ex H H2 h h2 where
 keep := fun c ob q n hc hx => b.keep c ob (a.keep c ob q n hc hx) (a.free c ob q n hx) hc hx
 slot := fun c ob q n hc hx => by
  obtain ⟨sl, e1⟩ := a.slot c ob q n hc hx
  obtain ⟨sl', e2⟩ := b.slot c _ e1 (a.free c ob q n hx) hc hx
  exact ⟨sl', e2⟩
 free := fun c ob q n hx => by
  obtain ⟨o', e1⟩ := a.there c ob q hx
  exact b.free c o' e1 (a.free c ob q n hx) hx
 there := fun c ob q hx => by
  obtain ⟨o', e1⟩ := a.there c ob q hx
  exact b.there c o' e1 hx
 tups := fun c xs q => b.tups c xs (a.tups c xs q)
 frzs := fun c ob xs q => b.frzs c ob xs (a.frzs c ob xs q)
 tbls := fun c ps q => by
  obtain ⟨m1, e1⟩ := a.tbls c ps q
  obtain ⟨m2, e2⟩ := b.tbls c _ e1
  exact ⟨m1 ++ m2, by rw [e2, Array.append_assoc]⟩
theorem Un.kept (k : ∀ b u, h.get? b = some u → h'.get? b = some u) : Un fs ex H H h h' :=
 ⟨fun b ob q _ _ _ => k b ob q, fun b ob q _ _ _ => ⟨ob.slots, k b ob q⟩, fun _ _ _ n _ => n, fun b ob q _ => ⟨ob, k b ob q⟩, fun _ _ q => q, fun _ _ _ q => q, fun _ ps q => ⟨#[], by rw [q]; simp⟩⟩
theorem Un.refl : Un fs ex H H h h := Un.kept fun _ _ q => q
theorem Un.laid (k : ∀ b u, h.get? b = some u → h'.get? b = some u) (hp : h.objs.size ≤ a) (hn : H a = none) : Un fs ex H (upd H a o) h h' where
 keep := fun b u q _ _ _ => k b u q
 slot := fun b u q _ _ _ => ⟨u.slots, k b u q⟩
 free := fun b u q n _ => by rw [af_ (Nat.ne_of_lt (Nat.lt_of_lt_of_le (Heap.lt_size q) hp))]; exact n
 there := fun b u q _ => ⟨u, k b u q⟩
 tups := fun b xs q => by rw [af_ (ag_ q hn)]; exact q
 frzs := fun b u xs q => by rw [af_ (ag_ q hn)]; exact q
 tbls := fun b ps q => ⟨#[], by rw [af_ (ag_ q hn), q]; simp⟩
theorem Un.write (mu : Mut (H x)) (he : e = x ∨ H e = some (.own x)) (k : ∀ b u, b ≠ e → h.get? b = some u → h'.get? b = some u) (heo : ∃ u, h'.get? e = some u) : Un fs ex H (upd H x o) h h' := by
 have hx : ∀ b, H b = none → b ≠ x := fun b n z => by subst z; rw [n] at mu; exact mu
 have hb : ∀ b, H b = none → b ≠ e := fun b n z => by
  subst z
  rcases he with r | r
  ·exact hx b n r
  ·rw [n] at r; cases r
 have hm : ∀ b u, H b = some u → ¬ Mut (some u) → b ≠ x := fun b u q nm z => by subst z; rw [q] at mu; exact nm mu
 refine ⟨fun b u q n _ _ => k b u (hb b n) q, fun b u q n _ _ => ⟨u.slots, k b u (hb b n) q⟩, fun b u q n _ => by rw [af_ (hx b n)]; exact n, fun b u q _ => ?_,
  fun b xs q => by rw [af_ (hm b _ q fun z => z)]; exact q, fun b u xs q => by rw [af_ (hm b _ q fun z => z)]; exact q, fun b ps q => ⟨#[], by rw [af_ (hm b _ q fun z => z), q]; simp⟩⟩
 by_cases hbe : b = e
 ·subst hbe; exact heo
 ·exact ⟨u, k b u hbe q⟩
theorem Un.mono (u : Un fs ex H H1 h h1) (hs : ∀ b ∈ fs, b ∈ fs') (hx : ∀ b ∈ ex, b ∈ ex') : Un fs' ex' H H1 h h1 :=
 ⟨fun b ob q n hb he => u.keep b ob q n (fun z => hb (hs b z)) fun z => he (hx b z), fun _ _ q n _ he => u.any q n fun z => he (hx _ z), fun b ob q n he => u.free b ob q n fun z => he (hx b z), fun b ob q he => u.there b ob q fun z => he (hx b z), u.tups, u.frzs, u.tbls⟩
end
def trk (h : Heap) (H : Hp) : List Addr := (List.range h.objs.size).filter fun a => (H a).isSome
def hidT (h : Heap) (H : Hp) : Heap := PySem.W.hideAll h (trk h H)
theorem kI_ (h : Heap) (H : Hp) : (hidT h H).objs.size = h.objs.size := PySem.W.hideAll_size _ _
theorem lS_ {h : Heap} {H : Hp} {b : Addr} {o : Obj} (e : h.get? b = some o) (n : H b = none) : (hidT h H).get? b = some o :=
 PySem.W.hideAll_get _ e fun hm => by
  have q : (H b).isSome = true := (List.mem_filter.mp hm).2
  rw [n] at q; simp at q
theorem mU_ {h : Heap} {H : Hp} {b : Addr} {o : Obj} (e : (hidT h H).get? b = some o) : h.get? b = some o ∧ H b = none := by
 have e' : h.get? b = some o := PySem.W.of_hideAll (trk h H) e
 refine ⟨e', ?_⟩
 cases q : H b with
 | none => rfl
 | some x =>
  have hm : b ∈ trk h H := List.mem_filter.mpr ⟨List.mem_range.mpr (Heap.lt_size e'), by simp [q]⟩
  have z : (hidT h H).get? b = none := PySem.W.hideAll_none (trk h H) hm
  rw [z] at e; cases e
def allNews (g h : Heap) (L : Addr) : List (Addr × Obj) := (List.range h.objs.size).filterMap fun a => if a = L ∨ (g.get? a).isSome = true then none else (h.get? a).map fun o => (a, o)
theorem cV_ {g h : Heap} {L a : Addr} {o : Obj} (h1 : a ≠ L) (h2 : g.get? a = none) (h3 : h.get? a = some o) : (a, o) ∈ allNews g h L :=
 List.mem_filterMap.mpr ⟨a, List.mem_range.mpr (Heap.lt_size h3), by simp [h1, h2, h3]⟩
theorem gR_ {g h : Heap} {L : Addr} {p : Addr × Obj} (hp : p ∈ allNews g h L) : p.1 ≠ L ∧ g.get? p.1 = none ∧ h.get? p.1 = some p.2 := by
 obtain ⟨b, _, e⟩ := List.mem_filterMap.mp hp
 split at e
 ·cases e
 ·rename_i hn
  cases q : h.get? b with
  | none => rw [q] at e; simp at e
  | some u =>
   rw [q] at e
   simp only [Option.map_some, Option.some.injEq] at e
   subst e
   refine ⟨fun z => hn (.inl z), ?_, q⟩
   show g.get? b = none
   cases r : g.get? b with
   | none => rfl
   | some v => exact (hn (.inr (by simp [r]))).elim
def rest (g h : Heap) (L d : Addr) : List (Addr × Obj) := (allNews g h L).filter fun p => decide (p.1 ≠ d)
theorem hk_ {g h : Heap} {L : Addr} : News g L h (allNews g h L) := fun p hp => let ⟨a, b, c⟩ := gR_ hp; ⟨c, a, b⟩
end L2
namespace L2
open PySem PySem.Spec PyProof.Rows
structure Mod (K : PySem.W.Frag) (mg : Str → Option Value) (base : Heap) : Prop where
 kin : K.In base
 glob : base.Ns mainGlobals mg
 blt : ∃ mb, base.Ns builtinsNs mb ∧ ∀ x : Str, x ≠ "__name__" → mb x = bootBuiltins x
 nolimit : base.NoLimit
structure Cx where
 prog : Program
 w : World
 K : PySem.W.Frag
 mg : Str → Option Value
 base : Heap
 A : Around
 N : List Str
 s₀ : Shared
 H₀ : Hp
 env : Env
 outer : List Env
 stack : List Env
 ex : List Addr
 fn : Str → Bool
 calm : Bool
 pn : List (Addr × Obj)
 xe : Value → Shared → Prop
def frs (l : List Env) : List Addr := l.filterMap (·.frame)
abbrev Cx.fs (X : Cx) : List Addr := frs X.outer
def Vis (sc : Scope) (x : Str) : Prop := sc.names.lookup x = some .local ∨ sc.names.lookup x = some .cell ∨ sc.names.lookup x = some .free
def Loc (sc : Scope) (x : Str) : Prop := sc.names.lookup x = some .local ∨ sc.names.lookup x = some .cell
def Look (env : Env) (h : Heap) (m : Str → Option Value) (x : Str) (u : Value) : Prop :=
 (env.kindOf x = some .local ∧ m x = some u) ∨ ((env.kindOf x = some .cell ∨ env.kindOf x = some .free) ∧ ∃ c, env.cells.lookup x = some c ∧ h.IsCell c (some u))
structure Cx.Ok (X : Cx) : Prop where
 mod : Mod X.K X.mg X.base
 kind : X.env.scope.kind = .function
 glob : X.env.globals = mainGlobals
 blt : X.env.builtins = builtinsNs
 above : X.s₀.heap.objs.size ≤ X.env.locals
 inj : ∀ x y c, X.env.cells.lookup x = some c → X.env.cells.lookup y = some c → x = y
 has : ∀ x, (X.env.kindOf x = some .cell ∨ X.env.kindOf x = some .free) → ∃ c, X.env.cells.lookup x = some c
 cab : ∀ x c, X.fn x = true → X.env.cells.lookup x = some c → X.s₀.heap.objs.size ≤ c
 hd : X.calm = true → X.A.handled = none
 frames : X.A.frames = some X.stack
 stk : X.stack = X.outer ∨ (X.stack = X.env :: X.outer ∧ X.env.frame = some X.env.locals)
 exf : ∀ b ∈ X.ex, b ≠ X.env.locals ∧ ∀ x c, X.env.cells.lookup x = some c → c ≠ b
 bs : ∀ b o, X.base.get? b = some o → X.s₀.heap.get? b = some o ∧ X.H₀ b = none
 bsz : X.base.objs.size ≤ X.s₀.heap.objs.size
 noex : ∀ b o, X.base.get? b = some o → b ∉ X.ex
 exfs : ∀ b ∈ X.ex, b ∉ X.fs
 funs : X.s₀.heap.FunFrames X.base X.outer
 frf : ∀ b ∈ X.fs, X.H₀ b = none
structure Inv (X : Cx) (pins : List (Addr × Obj)) (σ : List (Option V)) (H : Hp) (s : Shared) : Prop where
 ok : X.Ok
 os : s.os = X.s₀.os
 bare : AllBare s.gens
 base : Un X.fs X.ex X.H₀ H X.s₀.heap s.heap
 loc : ∃ m, s.heap.Ns X.env.locals m ∧ ∀ (i : Nat) (x : Str) (v : V), X.N[i]? = some x → σ[i]? = some (some v) → Vis X.env.scope x → ∃ u, RelV v u ∧ Look X.env s.heap m x u
 cell : ∀ x c, X.env.cells.lookup x = some c → ∃ v, s.heap.IsCell c v
 free : H X.env.locals = none
 freeC : ∀ x c, X.env.cells.lookup x = some c → H c = none
 pin : ∀ p ∈ X.pn ++ pins, s.heap.get? p.1 = some p.2 ∧ H p.1 = none ∧ p.1 ≠ X.env.locals ∧ p.1 ∉ X.fs ∧ ∀ v, p.2.data ≠ .cell v
 hok : HOk X.prog X.w H s.heap
 len : σ.length = X.N.length
section
variable {X : Cx} {pins : List (Addr × Obj)} {σ : List (Option V)} {H H' : Hp} {s : Shared} {h' : Heap}
theorem Cx.Ok.nofr (ok : X.Ok) {b : Addr} {o : Obj} (e : X.base.get? b = some o) : b ∉ X.fs := fun hb => by
 have := (ok.funs.mem hb).1
 rw [e] at this; cases this
theorem Inv.bs (I : Inv X pins σ H s) : ∀ b o, X.base.get? b = some o → s.heap.get? b = some o ∧ H b = none := fun b o e =>
 ⟨I.base.keep b o (I.ok.bs b o e).1 (I.ok.bs b o e).2 (I.ok.nofr e) (I.ok.noex b o e), I.base.free b o (I.ok.bs b o e).1 (I.ok.bs b o e).2 (I.ok.noex b o e)⟩
theorem Inv.bk (I : Inv X pins σ H s) : ∀ b o, X.base.get? b = some o → s.heap.get? b = some o := fun b o e => (I.bs b o e).1
theorem Inv.mod (I : Inv X pins σ H s) : Mod X.K X.mg X.base := I.ok.mod
theorem Inv.kIn (I : Inv X pins σ H s) : X.K.In s.heap := I.ok.mod.kin.keeps I.bk
theorem Inv.nolimit (I : Inv X pins σ H s) : s.heap.NoLimit := I.ok.mod.nolimit.keeps I.bk
theorem Inv.fr (I : Inv X pins σ H s) : ∃ m, Fr X.base X.env.locals s.heap m :=
 let ⟨m, hn, _⟩ := I.loc
 ⟨m, hn, I.bk, Nat.le_trans I.ok.bsz I.ok.above⟩
theorem Inv.lt (I : Inv X pins σ H s) : X.env.locals < s.heap.objs.size := let ⟨_, hn, _⟩ := I.loc; hn.lt
theorem Inv.sz (I : Inv X pins σ H s) : X.s₀.heap.objs.size ≤ s.heap.objs.size := Nat.le_trans I.ok.above (Nat.le_of_lt I.lt)
theorem Inv.nofs (I : Inv X pins σ H s) {a : Addr} (h : s.heap.objs.size ≤ a) : a ∉ X.fs := fun hb => by
 obtain ⟨_, o, ho, _⟩ := I.ok.funs.mem hb
 exact absurd (Nat.lt_of_lt_of_le (Heap.lt_size ho) (Nat.le_trans I.sz h)) (Nat.lt_irrefl _)
theorem Inv.cne (I : Inv X pins σ H s) : ∀ x c, X.env.cells.lookup x = some c → c ≠ X.env.locals := fun x c e z => by
 obtain ⟨v, o, ho, hd⟩ := I.cell x c e
 obtain ⟨m, ⟨o', es, ep, ho', hd', _⟩, _⟩ := I.loc
 rw [z, ho'] at ho; cases ho; rw [hd'] at hd; cases hd
theorem Inv.funs (I : Inv X pins σ H s) : s.heap.FunFrames X.base X.outer := by
 have all : ∀ (l : List Env), (∀ b ∈ frs l, b ∈ X.fs) → X.s₀.heap.FunFrames X.base l → s.heap.FunFrames X.base l := by
  intro l
  induction l with
  | nil => intro _ _; trivial
  | cons env r ih =>
   intro hs hl
   obtain ⟨hk, ⟨L, o, hf, hn, ho, hd⟩, hr⟩ := hl
   have hL : L ∈ X.fs := hs L (by unfold frs; rw [List.filterMap_cons, hf]; exact List.mem_cons_self)
   obtain ⟨sl, e⟩ := I.base.slot L o ho (I.ok.frf L hL) hL fun z => I.ok.exfs L z hL
   exact ⟨hk, ⟨L, _, hf, hn, e, hd⟩, ih (fun b hb => hs b (by unfold frs; rw [List.filterMap_cons, hf]; exact List.mem_cons_of_mem _ hb)) hr⟩
 exact all X.outer (fun _ hb => hb) I.ok.funs
theorem Inv.stack (I : Inv X pins σ H s) : s.heap.FunFrames X.base X.stack := by
 rcases I.ok.stk with e | ⟨e, hf⟩
 ·rw [e]; exact I.funs
 ·rw [e]
  obtain ⟨m, hn, _⟩ := I.loc
  refine .cons (by rw [I.ok.kind]; decide) hf hn ?_ I.funs
  exact Heap.get?_none_of_le (Nat.le_trans I.ok.bsz I.ok.above)
theorem Inv.stkSub (I : Inv X pins σ H s) : ∀ b ∈ frs X.stack, b ∈ X.env.locals :: X.fs := fun b hb => by
 rcases I.ok.stk with e | ⟨e, hf⟩
 ·rw [e] at hb; exact List.mem_cons_of_mem _ hb
 ·rw [e] at hb
  unfold frs at hb
  rw [List.filterMap_cons, hf] at hb
  exact hb
theorem Inv.stkFree (I : Inv X pins σ H s) : ∀ b ∈ frs X.stack, H b = none := fun b hb => by
 rcases List.mem_cons.mp (I.stkSub b hb) with e | hb
 ·rw [e]; exact I.free
 ·obtain ⟨_, o, ho, _⟩ := I.ok.funs.mem hb
  exact I.base.free b o ho (I.ok.frf b hb) fun z => I.ok.exfs b z hb
theorem Inv.step {g' : Array GenState} {t' : Nat} {d' : Drawn} {ch : List Addr} (I : Inv X pins σ H s)
  (hch : ∀ b ∈ ch, (b ∈ X.ex ∨ X.s₀.heap.objs.size ≤ b) ∧ b ≠ X.env.locals ∧ (∀ x c, X.env.cells.lookup x = some c → c ≠ b) ∧ ∀ p ∈ X.pn ++ pins, p.1 ≠ b)
  (keep : ∀ b o, b ≠ X.env.locals → b ∉ X.fs → b ∉ ch → s.heap.get? b = some o → H b = none → h'.get? b = some o)
  (slot : ∀ b o, b ≠ X.env.locals → b ∈ X.fs → b ∉ ch → s.heap.get? b = some o → H b = none → ∃ sl, h'.get? b = some { o with slots := sl }) (free : ∀ b o, b ∉ ch → s.heap.get? b = some o → H b = none → H' b = none)
  (there : ∀ b o, b ∉ ch → s.heap.get? b = some o → ∃ o', h'.get? b = some o')
  (tups : ∀ b xs, H b = some (.tup xs) → H' b = some (.tup xs)) (frzs : ∀ b o u, H b = some (.frz o u) → H' b = some (.frz o u)) (tbls : ∀ b ps, H b = some (.tbl ps) → ∃ more, H' b = some (.tbl (ps ++ more)))
  (ns : ∀ m, s.heap.Ns X.env.locals m → h'.Ns X.env.locals m) (hok : HOk X.prog X.w H' h') (hg : AllBare g') :
  Inv X pins σ H' { s with heap := h', gens := g', drawn := d', toks := t' } := by
 have neL : ∀ b o, X.s₀.heap.get? b = some o → b ≠ X.env.locals := fun b o e => Nat.ne_of_lt (Nat.lt_of_lt_of_le (Heap.lt_size e) I.ok.above)
 have neC : ∀ b o, X.s₀.heap.get? b = some o → b ∉ X.ex → b ∉ ch := fun b o e hx hb => by
  rcases (hch b hb).1 with z | z
  ·exact hx z
  ·exact absurd (Nat.lt_of_lt_of_le (Heap.lt_size e) z) (Nat.lt_irrefl _)
 have cellK : ∀ x c, X.env.cells.lookup x = some c → ∀ v, s.heap.IsCell c v → h'.IsCell c v := fun x c e v ⟨o, ho, hd⟩ => by
  have nch : c ∉ ch := fun z => (hch c z).2.2.1 x c e rfl
  by_cases hc : c ∈ X.fs
  ·obtain ⟨sl, q⟩ := slot c o (I.cne x c e) hc nch ho (I.freeC x c e)
   exact ⟨_, q, hd⟩
  ·exact ⟨o, keep c o (I.cne x c e) hc nch ho (I.freeC x c e), hd⟩
 refine ⟨I.ok, I.os, hg, ⟨fun b o e n hb hx => ?_, fun b o e n hb hx => ?_, fun b o e n hx => ?_, fun b o e hx => ?_, fun b xs e => tups b xs (I.base.tups b xs e), fun b o xs e => frzs b o xs (I.base.frzs b o xs e), fun b ps e => ?_⟩, ?_, fun x c e => ?_, ?_, fun x c e => ?_, fun p hp => ?_, hok, I.len⟩
 ·exact keep b o (neL b o e) hb (neC b o e hx) (I.base.keep b o e n hb hx) (I.base.free b o e n hx)
 ·obtain ⟨sl, e1⟩ := I.base.slot b o e n hb hx
  obtain ⟨sl', e2⟩ := slot b _ (neL b o e) hb (neC b o e hx) e1 (I.base.free b o e n hx)
  exact ⟨sl', e2⟩
 ·obtain ⟨o', e1⟩ := I.base.there b o e hx
  exact free b o' (neC b o e hx) e1 (I.base.free b o e n hx)
 ·obtain ⟨o', e1⟩ := I.base.there b o e hx
  exact there b o' (neC b o e hx) e1
 ·obtain ⟨m1, e1⟩ := I.base.tbls b ps e
  obtain ⟨m2, e2⟩ := tbls b _ e1
  exact ⟨m1 ++ m2, by rw [e2, Array.append_assoc]⟩
 ·obtain ⟨m, hn, hl⟩ := I.loc
  refine ⟨m, ns m hn, fun i x v e1 e2 e3 => ?_⟩
  obtain ⟨u, r, l⟩ := hl i x v e1 e2 e3
  refine ⟨u, r, ?_⟩
  rcases l with l | ⟨k, c, e, z⟩
  ·exact .inl l
  ·exact .inr ⟨k, c, e, cellK x c e _ z⟩
 ·obtain ⟨v, z⟩ := I.cell x c e
  exact ⟨v, cellK x c e v z⟩
 ·obtain ⟨m, ⟨o, _, _, ho, _⟩, _⟩ := I.loc
  exact free _ o (fun z => (hch _ z).2.1 rfl) ho I.free
 ·obtain ⟨v, o, ho, hd⟩ := I.cell x c e
  exact free c o (fun z => (hch c z).2.2.1 x c e rfl) ho (I.freeC x c e)
 ·obtain ⟨e, n, ne, nf, d⟩ := I.pin p hp
  have nch : p.1 ∉ ch := fun z => (hch p.1 z).2.2.2 p hp rfl
  exact ⟨keep p.1 p.2 ne nf nch e n, free p.1 p.2 nch e n, ne, nf, d⟩
theorem Inv.un {t' : Nat} (I : Inv X pins σ H s) (u : Un X.fs [] H H' s.heap h') (hok : HOk X.prog X.w H' h') : Inv X pins σ H' { s with heap := h', toks := t' } := by
 obtain ⟨m, ⟨o, es, ep, ho, r⟩, _⟩ := id I.loc
 obtain ⟨sl, hL⟩ := u.any ho I.free (by simp)
 exact I.step (g' := s.gens) (d' := s.drawn) (ch := []) (fun _ z => nomatch z) (fun b o _ hb _ e n => u.keep b o e n hb (by simp)) (fun b o _ hb _ e n => u.slot b o e n hb (by simp)) (fun b o _ e n => u.free b o e n (by simp)) (fun b o _ e => u.there b o e (by simp)) u.tups u.frzs u.tbls (fun m' hm => by
  obtain ⟨o', es', ep', ho', r'⟩ := hm
  rw [ho] at ho'; cases ho'
  exact ⟨_, es', ep', hL, r'⟩) hok I.bare
theorem Inv.call {g' : Array GenState} {t' : Nat} {d' : Drawn} {ch : List Addr} (I : Inv X pins σ H s) (u : Un (frs X.stack) ch H H' s.heap h') (hok : HOk X.prog X.w H' h') (hg : AllBare g')
  (hch : ∀ b ∈ ch, (b ∈ X.ex ∨ X.s₀.heap.objs.size ≤ b) ∧ b ≠ X.env.locals ∧ (∀ x c, X.env.cells.lookup x = some c → c ≠ b) ∧ ∀ p ∈ X.pn ++ pins, p.1 ≠ b) :
  Inv X pins σ H' { s with heap := h', gens := g', drawn := d', toks := t' } := by
 obtain ⟨m, ⟨o, es, ep, ho, r⟩, _⟩ := id I.loc
 obtain ⟨sl, hL⟩ := u.any ho I.free fun z => (hch _ z).2.1 rfl
 exact I.step (ch := ch) hch (fun b o hL hb hc e n => u.keep b o e n (fun z => (List.mem_cons.mp (I.stkSub b z)).elim hL hb) hc) (fun b o _ _ hc e n => u.any e n hc) (fun b o hc e n => u.free b o e n hc) (fun b o hc e => u.there b o e hc) u.tups u.frzs u.tbls (fun m' hm => by
  obtain ⟨o', es', ep', ho', r'⟩ := hm
  rw [ho] at ho'; cases ho'
  exact ⟨_, es', ep', hL, r'⟩) hok hg
theorem Inv.turned {t' : Nat} {it : Addr} (I : Inv X pins σ H s) (k : ∀ b o, b ≠ it → s.heap.get? b = some o → h'.get? b = some o) (hn : H it = none) (hL : it ≠ X.env.locals)
  (h1 : it ∈ X.ex ∨ X.s₀.heap.objs.size ≤ it) (h2 : ∀ x c, X.env.cells.lookup x = some c → c ≠ it) (h3 : ∀ p ∈ X.pn ++ pins, p.1 ≠ it) : Inv X pins σ H { s with heap := h', toks := t' } := by
 have nit : ∀ b u, H b = some u → b ≠ it := fun b u e z => by rw [z, hn] at e; cases e
 refine I.step (g' := s.gens) (d' := s.drawn) (ch := [it]) (fun b hb => ?_) (fun b o _ _ hc e _ => k b o (fun z => hc (by simp [z])) e) (fun b o _ _ hc e _ => ⟨o.slots, k b o (fun z => hc (by simp [z])) e⟩) (fun _ _ _ _ n => n)
  (fun b o hc e => ⟨o, k b o (fun z => hc (by simp [z])) e⟩) (fun _ _ e => e) (fun _ _ _ e => e) (fun b ps e => ⟨#[], by rw [e]; simp⟩) (fun m hm => ?_) (fun b u e => ?_) I.bare
 ·have e : b = it := by simpa using hb
  subst e
  exact ⟨h1, hL, h2, h3⟩
 ·obtain ⟨o, es, ep, ho, r⟩ := hm
  exact ⟨o, es, ep, k _ o (Ne.symm hL) ho, r⟩
 ·refine (I.hok b u e).stay (fun c v hc q => k c v ?_ q) (fun _ q => q) fun _ _ q => q
  rcases hc with z | z
  ·rw [z]; exact nit b u e
  ·exact nit c _ z
theorem Inv.tok (I : Inv X pins σ H s) (t : Nat) : Inv X pins σ H { s with toks := t } := I.un (h' := s.heap) (t' := t) Un.refl I.hok
theorem Inv.kept {t' : Nat} (I : Inv X pins σ H s) (k : ∀ b u, s.heap.get? b = some u → h'.get? b = some u) : Inv X pins σ H { s with heap := h', toks := t' } := I.un (Un.kept k) (I.hok.kept k)
theorem Inv.laid {a : Addr} {o : HO} {t' : Nat} (I : Inv X pins σ H s) (k : ∀ b u, s.heap.get? b = some u → h'.get? b = some u) (hp : s.heap.objs.size ≤ a) (new : ObjOk X.prog X.w (upd H a o) h' a o) :
  Inv X pins σ (upd H a o) { s with heap := h', toks := t' } := I.un (Un.laid k hp (I.hok.fresh hp)) (I.hok.laid k hp new)
theorem Inv.write {x e : Addr} {o : HO} {t' : Nat} (I : Inv X pins σ H s) (mu : Mut (H x)) (he : e = x ∨ H e = some (.own x)) (k : ∀ b u, b ≠ e → s.heap.get? b = some u → h'.get? b = some u) (heo : ∃ u, h'.get? e = some u)
  (new : ObjOk X.prog X.w (upd H x o) h' x o) : Inv X pins σ (upd H x o) { s with heap := h', toks := t' } := I.un (Un.write mu he k heo) (I.hok.write mu he k heo new)
theorem Inv.pins_of {pins' : List (Addr × Obj)} (I : Inv X pins σ H s) (h : ∀ p ∈ pins', s.heap.get? p.1 = some p.2 ∧ H p.1 = none ∧ p.1 ≠ X.env.locals ∧ p.1 ∉ X.fs ∧ ∀ v, p.2.data ≠ .cell v) : Inv X pins' σ H s :=
 ⟨I.ok, I.os, I.bare, I.base, I.loc, I.cell, I.free, I.freeC, fun p hp => (List.mem_append.mp hp).elim (fun z => I.pin p (List.mem_append_left _ z)) (h p), I.hok, I.len⟩
theorem hl_ {N : List Str} (hN : N.Nodup) {i j : Nat} {x : Str} (a : N[i]? = some x) (b : N[j]? = some x) : i = j := by
 obtain ⟨h1, e1⟩ := List.getElem?_eq_some_iff.mp a
 obtain ⟨h2, e2⟩ := List.getElem?_eq_some_iff.mp b
 exact (List.getElem_inj hN).mp (e1.trans e2.symm)
theorem hY_ {M : Model} {A : Around} {E : Value → Shared → Prop} {i : Nat} {x : Str} {v : V} {u : Value} {Q : Unit → Shared → Prop} (I : Inv X pins σ H s) (hN : X.N.Nodup) (hi : X.N[i]? = some x) (hx : Loc X.env.scope x) (r : RelV v u)
  (h : ∀ s', Inv X pins (σ.set i (some v)) H s' → (∃ a, Heap.SameBut a s.heap s'.heap ∧ (a = X.env.locals ∨ X.env.cells.lookup x = some a)) → Q () s') (hf : X.fn x = true ∨ X.env.scope.names.lookup x = some .local := by first | exact .inl rfl | exact .inr rfl | assumption) : wpAny M A (storeName X.env x u) Q E s := by
 obtain ⟨m, hn, hl⟩ := id I.loc
 have hcls : (X.env.scope.kind == .class || (X.env.scope.kind == .module && X.env.locals != X.env.globals)) = false := by rw [I.ok.kind]; rfl
 have hiσ : i < σ.length := by rw [I.len]; exact (List.getElem?_eq_some_iff.mp hi).1
 have cne := I.cne
 have tracked : ∀ {a : Addr} {h' : Heap}, (∃ o, s.heap.get? a = some o ∧ H a = none) → Heap.SameBut a s.heap h' → HOk X.prog X.w H h' := fun {a h'} ha hs b ob e => by
  obtain ⟨_, _, hfree⟩ := ha
  refine (I.hok b ob e).stay (fun c w' hc q => (hs.2 c ?_).trans q) (fun _ q => q) fun _ _ q => q
  rintro rfl
  rcases hc with rfl | hc
  ·rw [hfree] at e; cases e
  ·rw [hfree] at hc; cases hc
 rcases hx with hk | hk
 ·refine wpAny_storeName_local hk hn (fun h' hn' hs => ?_) hcls
  obtain ⟨oL, _, _, hoL, _⟩ := id hn
  refine h _ ⟨I.ok, I.os, I.bare, ⟨fun b o e n hb hx => ?_, fun b o e n hb hx => ?_, I.base.free, fun b o e hx => ?_, I.base.tups, I.base.frzs, I.base.tbls⟩, ⟨_, hn', fun j y v' e1 e2 e3 => ?_⟩, fun y c e => ?_, I.free, I.freeC, fun p hp => ?_, tracked ⟨oL, hoL, I.free⟩ hs, by simpa using I.len⟩ ⟨_, hs, .inl rfl⟩
  ·exact (hs.2 b (Nat.ne_of_lt (Nat.lt_of_lt_of_le (Heap.lt_size e) I.ok.above))).trans (I.base.keep b o e n hb hx)
  ·obtain ⟨sl, e1⟩ := I.base.slot b o e n hb hx
   exact ⟨sl, (hs.2 b (Nat.ne_of_lt (Nat.lt_of_lt_of_le (Heap.lt_size e) I.ok.above))).trans e1⟩
  ·obtain ⟨o', e1⟩ := I.base.there b o e hx
   exact ⟨o', (hs.2 b (Nat.ne_of_lt (Nat.lt_of_lt_of_le (Heap.lt_size e) I.ok.above))).trans e1⟩
  ·by_cases hj : j = i
   ·subst hj
    rw [hi] at e1; cases e1
    rw [List.getElem?_set_self hiσ] at e2
    cases e2
    exact ⟨u, r, .inl ⟨hk, by simp⟩⟩
   ·rw [List.getElem?_set_ne (Ne.symm hj)] at e2
    obtain ⟨u', r', q⟩ := hl j y v' e1 e2 e3
    refine ⟨u', r', ?_⟩
    rcases q with ⟨k, e⟩ | ⟨k, c, e, z⟩
    ·refine .inl ⟨k, ?_⟩
     have : y ≠ x := fun e => hj (hl_ hN e1 (e ▸ hi))
     simp [this, e]
    ·exact .inr ⟨k, c, e, z.sameBut hs (cne y c e)⟩
  ·obtain ⟨w', z⟩ := I.cell y c e
   exact ⟨w', z.sameBut hs (cne y c e)⟩
  ·obtain ⟨e, n, ne, nf, d⟩ := I.pin p hp
   exact ⟨(hs.2 p.1 ne).trans e, n, ne, nf, d⟩
 ·have hfn : X.fn x = true := by
   rcases hf with z | z
   ·exact z
   ·rw [z] at hk; cases hk
  obtain ⟨c, hc⟩ := I.ok.has x (.inl hk)
  obtain ⟨w', z⟩ := I.cell x c hc
  refine wpAny_storeName_cell I.ok.kind hk hc z (fun h' hc' hs => ?_)
  obtain ⟨oc, hoc, hocd⟩ := id z
  refine h { s with heap := h' } ⟨I.ok, I.os, I.bare, ⟨fun b o e n hb hx => ?_, fun b o e n hb hx => ?_, I.base.free, fun b o e hx => ?_, I.base.tups, I.base.frzs, I.base.tbls⟩, ⟨m, hn.sameBut hs (Ne.symm (cne x c hc)), fun j y v' e1 e2 e3 => ?_⟩, fun y c' e => ?_, I.free, I.freeC, fun p hp => ?_, tracked ⟨oc, hoc, I.freeC x c hc⟩ hs, by simpa using I.len⟩ ⟨c, hs, .inr hc⟩
  ·exact (hs.2 b (Nat.ne_of_lt (Nat.lt_of_lt_of_le (Heap.lt_size e) (I.ok.cab x c hfn hc)))).trans (I.base.keep b o e n hb hx)
  ·obtain ⟨sl, e1⟩ := I.base.slot b o e n hb hx
   exact ⟨sl, (hs.2 b (Nat.ne_of_lt (Nat.lt_of_lt_of_le (Heap.lt_size e) (I.ok.cab x c hfn hc)))).trans e1⟩
  ·obtain ⟨o', e1⟩ := I.base.there b o e hx
   exact ⟨o', (hs.2 b (Nat.ne_of_lt (Nat.lt_of_lt_of_le (Heap.lt_size e) (I.ok.cab x c hfn hc)))).trans e1⟩
  ·by_cases hj : j = i
   ·subst hj
    rw [hi] at e1; cases e1
    rw [List.getElem?_set_self hiσ] at e2
    cases e2
    exact ⟨u, r, .inr ⟨.inl hk, c, hc, hc'⟩⟩
   ·rw [List.getElem?_set_ne (Ne.symm hj)] at e2
    obtain ⟨u', r', q⟩ := hl j y v' e1 e2 e3
    refine ⟨u', r', ?_⟩
    rcases q with q | ⟨k, c', e, z'⟩
    ·exact .inl q
    ·refine .inr ⟨k, c', e, z'.sameBut hs ?_⟩
     rintro rfl
     exact hj (hl_ hN e1 (I.ok.inj _ _ _ e hc ▸ hi))
  ·by_cases hcc : c' = c
   ·subst hcc; exact ⟨_, hc'⟩
   ·obtain ⟨w2, z2⟩ := I.cell y c' e
    exact ⟨w2, z2.sameBut hs hcc⟩
  ·obtain ⟨e, n, ne, nf, d⟩ := I.pin p hp
   refine ⟨(hs.2 p.1 ?_).trans e, n, ne, nf, d⟩
   intro q
   rw [q, hoc] at e
   have q' : oc = p.2 := Option.some.inj e
   exact d w' (by rw [← q']; exact hocd)
theorem eu_ {M : Model} {A : Around} {E : Value → Shared → Prop} {i : Nat} {x : Str} {v : V} {u : Value} {Q : Unit → Shared → Prop} (I : Inv X pins σ H s) (hN : X.N.Nodup) (hi : X.N[i]? = some x) (hx : Loc X.env.scope x) (r : RelV v u)
  (h : ∀ s', Inv X pins (σ.set i (some v)) H s' → Q () s') (hf : X.fn x = true ∨ X.env.scope.names.lookup x = some .local := by first | exact .inl rfl | exact .inr rfl | assumption) : wpAny M A (storeName X.env x u) Q E s :=
 hY_ I hN hi hx r (fun s' I' _ => h s' I') hf
theorem Inv.call' {s' : Shared} {ch : List Addr} (I : Inv X pins σ H s) (ho : s'.os = s.os) (u : Un (frs X.stack) ch H H' s.heap s'.heap) (hok : HOk X.prog X.w H' s'.heap) (hg : AllBare s'.gens)
  (hch : ∀ b ∈ ch, (b ∈ X.ex ∨ X.s₀.heap.objs.size ≤ b) ∧ b ≠ X.env.locals ∧ (∀ x c, X.env.cells.lookup x = some c → c ≠ b) ∧ ∀ p ∈ X.pn ++ pins, p.1 ≠ b) : Inv X pins σ H' s' := by
 obtain ⟨h', g', d', t', o'⟩ := s'
 have e : o' = s.os := ho
 subst e
 exact I.call (g' := g') (t' := t') (d' := d') u hok hg hch
end
abbrev XK := Value → Option Addr → Hp → Prop
abbrev St := List (Option V)
abbrev VK := V → Hp → Prop
abbrev TE := St → Hp → VK → Prop
abbrev TT := St → Hp → (Bool → Hp → Prop) → Prop
abbrev TA := St → Hp → (List V → Hp → Prop) → Prop
structure Ends where
 nx : St → Hp → Prop
 rt : VK
 bk : St → Hp → Prop := fun _ _ => False
 ct : St → Hp → Prop := fun _ _ => False
abbrev TS := Ends → St → Hp → Prop
def EP (X : Cx) (pins : List (Addr × Obj)) (σ : St) (Q : VK) (u : Value) (s' : Shared) : Prop := ∃ v H', Inv X pins σ H' s' ∧ RelV v u ∧ Q v H'
def TP (X : Cx) (pins : List (Addr × Obj)) (σ : St) (Q : Bool → Hp → Prop) (b : Bool) (s' : Shared) : Prop := ∃ H', Inv X pins σ H' s' ∧ Q b H'
def AP (X : Cx) (pins : List (Addr × Obj)) (σ : St) (Q : List V → Hp → Prop) (us : List Value) (s' : Shared) : Prop := ∃ vs H', Inv X pins σ H' s' ∧ Vals vs us ∧ Q vs H'
def SP (X : Cx) (pins : List (Addr × Obj)) (D : Ends) (f : Flow) (s' : Shared) : Prop :=
 match f with
 | .next => ∃ σ' H', Inv X pins σ' H' s' ∧ D.nx σ' H'
 | .brk => ∃ σ' H', Inv X pins σ' H' s' ∧ D.bk σ' H'
 | .cont => ∃ σ' H', Inv X pins σ' H' s' ∧ D.ct σ' H'
 | .ret u => ∃ v σ' H', Inv X pins σ' H' s' ∧ RelV v u ∧ D.rt v H'
def PE (X : Cx) (e : Expr) (t : TE) : Prop :=
 ∀ (pins : List (Addr × Obj)) (s : Shared) (σ : St) (H : Hp) (Q : VK), Inv X pins σ H s → t σ H Q → wpAny (model X.prog X.w) X.A (eval e X.env) (EP X pins σ Q) X.xe s
def PT (X : Cx) (e : Expr) (t : TT) : Prop :=
 ∀ (pins : List (Addr × Obj)) (s : Shared) (σ : St) (H : Hp) (Q : Bool → Hp → Prop), Inv X pins σ H s → t σ H Q → wpAny (model X.prog X.w) X.A (isTrue e X.env (eval e X.env)) (TP X pins σ Q) X.xe s
def PW (X : Cx) (e : Expr) (t : TT) : Prop :=
 ∀ (whole : Sem Value) (pins : List (Addr × Obj)) (s : Shared) (σ : St) (H : Hp) (Q : Bool → Hp → Prop), Inv X pins σ H s → t σ H Q → wpAny (model X.prog X.w) X.A (isTrue e X.env whole) (TP X pins σ Q) X.xe s
theorem PW.pt {X : Cx} {e : Expr} {t : TT} (h : PW X e t) : PT X e t := h _
def PA (X : Cx) (es : List Expr) (t : TA) : Prop :=
 ∀ (pos : Pos) (pins : List (Addr × Obj)) (s : Shared) (σ : St) (H : Hp) (Q : List V → Hp → Prop), Inv X pins σ H s → t σ H Q → wpAny (model X.prog X.w) X.A (spliced (backTo pos (starEach es X.env))) (AP X pins σ Q) X.xe s
def PS (X : Cx) (st : Stmt) (t : TS) : Prop :=
 ∀ (pins : List (Addr × Obj)) (s : Shared) (σ : St) (H : Hp) (D : Ends), Inv X pins σ H s → t D σ H → wpAny (model X.prog X.w) X.A (exec st X.env) (SP X pins D) X.xe s
def PSs (X : Cx) (st : List Stmt) (t : TS) : Prop :=
 ∀ (pins : List (Addr × Obj)) (s : Shared) (σ : St) (H : Hp) (D : Ends), Inv X pins σ H s → t D σ H → wpAny (model X.prog X.w) X.A (execs st X.env) (SP X pins D) X.xe s
theorem thn {α : Type} {t : Sem α} {Q Q' : α → Shared → Prop} {M : Model} {A : Around} {E : Value → Shared → Prop} {s : Shared} (h : wpAny M A t Q E s) (hQ : ∀ a s, Q a s → Q' a s) : wpAny M A t Q' E s := wpAny_mono h hQ fun _ _ x => x
end L2
namespace L2
open PySem PySem.Spec PyProof.Rows
section
variable {X : Cx}
def tVar (i : Nat) : TE := fun σ H Q => ∃ v, σ[i]? = some (some v) ∧ Q v H
def tC (v : V) : TE := fun _ H Q => Q v H
theorem kJ_ {i : Nat} {x : Str} {pos : Pos} (hN : X.N[i]? = some x) (hv : Vis X.env.scope x) (hd : (x == ("__debug__" : Str)) = false := by decide) (hcd : (x == ("__classdict__" : Str)) = false := by decide) : PE X (.Name x pos) (tVar i) := by
 intro pins s σ H Q I h
 obtain ⟨v, e, h⟩ := h
 obtain ⟨m, hn, hl⟩ := I.loc
 obtain ⟨u, r, l⟩ := hl i x v hN e hv
 have fin : EP X pins σ Q u s := ⟨v, H, I, r, h⟩
 rcases l with ⟨hk, hm⟩ | ⟨hk, c, hc, hcell⟩
 ·exact wpAny_Name (wpAny_loadName_local I.ok.kind hk hn hm fin) hd
 ·rcases hk with hk | hk
  ·exact wpAny_Name (wpAny_loadName_cell I.ok.kind hk hc hcell fin) hd
  ·exact wpAny_Name (wpAny_loadName_free I.ok.kind hk hc hcell fin hcd) hd
theorem ab_ {i j pos} : PE X (.Constant (.int i) j pos) (tC (.int i)) := fun _ _ _ H _ I h => wpAny_Constant_int ⟨.int i, H, I.tok _, ⟨_, rfl⟩, h⟩
theorem pe_bl {b j pos} : PE X (.Constant (.bool b) j pos) (tC (.bl b)) := fun _ _ _ H _ I h => Constant_bool ⟨.bl b, H, I, rfl, h⟩
theorem nO_ {j pos} : PE X (.Constant .none j pos) (tC .non) := fun _ _ _ H _ I h => Constant_none ⟨.non, H, I, rfl, h⟩
theorem kK_ {x j pos} : PE X (.Constant (.str x) j pos) (tC (.str x)) := fun _ _ _ H _ I h => Calls.Constant_str ⟨.str x, H, I.tok _, ⟨_, rfl⟩, h⟩
def Gl (X : Cx) (x : Str) : Prop := X.env.kindOf x = some .globalImplicit
theorem fX_ {E : Value → Shared → Prop} {pins : List (Addr × Obj)} {s : Shared} {σ : St} {H : Hp} {x : Str} {u : Value} {pos : Pos} {Q : Value → Shared → Prop} (I : Inv X pins σ H s) (hg : Gl X x) (hm : X.mg x = some u) (h : Q u s)
  (hd : (x == ("__debug__" : Str)) = false := by decide) : wpAny (model X.prog X.w) X.A (eval (.Name x pos) X.env) Q E s :=
 Calls.Name_function_global I.ok.kind hg (Calls.loadGlobal_global (by rw [I.ok.glob]; exact I.mod.glob.keeps I.bk) hm h) hd
theorem ev_ {E : Value → Shared → Prop} {pins : List (Addr × Obj)} {s : Shared} {σ : St} {H : Hp} {x : Str} {u : Value} {pos : Pos} {Q : Value → Shared → Prop} (I : Inv X pins σ H s) (hg : Gl X x) (hm : X.mg x = none) (hv : bootBuiltins x = some u) (h : Q u s)
  (hn : x ≠ "__name__" := by decide) (hd : (x == ("__debug__" : Str)) = false := by decide) : wpAny (model X.prog X.w) X.A (eval (.Name x pos) X.env) Q E s := by
 obtain ⟨mb, h1, h2⟩ := I.mod.blt
 exact Calls.Name_function_global I.ok.kind hg (Calls.loadGlobal_builtin (by rw [I.ok.glob]; exact I.mod.glob.keeps I.bk) hm (by rw [I.ok.blt]; exact h1.keeps I.bk) ((h2 x hn).trans hv) h) hd
theorem i6_ {x : Str} {v : V} {u : Value} {pos : Pos} (hg : Gl X x) (hm : X.mg x = some u) (r : RelV v u) (hd : (x == ("__debug__" : Str)) = false := by decide) : PE X (.Name x pos) (tC v) :=
 fun _ _ _ H _ I h => fX_ I hg hm ⟨v, H, I, r, h⟩ hd
theorem mV_ {x : Str} {v : V} {u : Value} {pos : Pos} (hg : Gl X x) (hm : X.mg x = none) (hv : bootBuiltins x = some u) (r : RelV v u) (hn : x ≠ "__name__" := by decide) (hd : (x == ("__debug__" : Str)) = false := by decide) : PE X (.Name x pos) (tC v) :=
 fun _ _ _ H _ I h => ev_ I hg hm hv ⟨v, H, I, r, h⟩ hn hd
variable {a b : Expr} {ta tb : TE} {pos : Pos}
def PC (X : Cx) (op : CmpOp) (a b : Expr) (t : TE) : Prop :=
 ∀ (pins : List (Addr × Obj)) (s : Shared) (σ : St) (H : Hp) (Q : VK), Inv X pins σ H s → t σ H Q →
  wpAny (model X.prog X.w) X.A (eval a X.env) (fun v s₁ => wpAny (model X.prog X.w) X.A (eval b X.env) (fun u s₂ => wpAny (model X.prog X.w) X.A (compareOp op v u) (EP X pins σ Q) X.xe s₂) X.xe s₁) X.xe s
theorem nobehind (b : Expr) {op : CmpOp} (h : op ≠ .In) (h2 : op ≠ .NotIn) : behindInMarks op b = false := by
 have e1 : (op == CmpOp.In) = false := by cases op <;> first | rfl | exact absurd rfl h
 have e2 : (op == CmpOp.NotIn) = false := by cases op <;> first | rfl | exact absurd rfl h2
 cases b <;> simp [behindInMarks, e1, e2]
def tIsN (ta : TE) : TE := fun σ H Q => ta σ H fun x H1 => Q (.bl (decide (x = .non))) H1
def tNotN (ta : TE) : TE := fun σ H Q => ta σ H fun x H1 => Q (.bl (!decide (x = .non))) H1
theorem RelV.none_iff {x : V} {v : Value} (r : RelV x v) : (v == Value.none) = decide (x = .non) := by
 cases x with
 | non => cases r; rfl
 | bl _ => cases r; rfl
 | int _ => obtain ⟨t, rfl⟩ := r; rfl
 | str _ => obtain ⟨t, rfl⟩ := r; rfl
 | byt _ => obtain ⟨t, rfl⟩ := r; rfl
 | flt _ => obtain ⟨t, rfl⟩ := r; rfl
 | ref _ => cases r; rfl
 | ty _ => cases r; rfl
theorem nP_ {j pos'} (ha : PE X a ta) : PC X .Is a (.Constant .none j pos') (tIsN ta) := by
 intro pins s σ H Q I h
 refine thn (ha pins s σ H _ I h) fun v s1 ⟨x, H1, I1, r1, q1⟩ => ?_
 exact Constant_none (is_none_gen ⟨.bl _, H1, I1, by rw [r1.none_iff]; rfl, q1⟩)
theorem mW_ {j pos'} (ha : PE X a ta) : PC X .IsNot a (.Constant .none j pos') (tNotN ta) := by
 intro pins s σ H Q I h
 refine thn (ha pins s σ H _ I h) fun v s1 ⟨x, H1, I1, r1, q1⟩ => ?_
 exact Constant_none (isnot_none_gen ⟨.bl _, H1, I1, by rw [r1.none_iff]; rfl, q1⟩)
def tB (t : TE) : TT := fun σ H Q => t σ H fun x H1 => ∃ c, x = .bl c ∧ Q c H1
theorem nQ_ {op : CmpOp} {t : TE} (h : PC X op a b t) (h1 : behindInMarks op b = false := by first | exact nobehind _ (by decide) (by decide) | rfl) : PE X (.Compare a [op] [b] pos) t := fun pins s σ H Q I hw => wpAny_Compare1 (h pins s σ H Q I hw) h1
theorem mu_ {op : CmpOp} {t : TE} (h : PC X op a b t) (h1 : behindInMarks op b = false := by first | exact nobehind _ (by decide) (by decide) | rfl) : PT X (.Compare a [op] [b] pos) (tB t) := by
 intro pins s σ H Q I hw
 refine wpAny_isTrue_Compare1 (thn (h pins s σ H _ I hw) fun v s1 h1 => thn h1 fun u s2 h2 => thn h2 fun c s3 ⟨x, H1, I1, r1, q1⟩ => ?_) h1
 obtain ⟨d, rfl, q⟩ := q1
 cases r1
 exact wpAny_truthy_bool ⟨H1, I1, q⟩
theorem d4_ {e : Expr} {t : TE} (h : PE X e t) (he : ∀ whole, isTrue e X.env whole = (do let v ← whole; standAt e.pos; holding [v] (truthy v)) := by intro _; rfl) : PT X e (tB t) := by
 intro pins s σ H Q I hw
 refine isTrue_plain (thn (h pins s σ H _ I hw) fun v s1 ⟨x, H1, I1, r1, q1⟩ => ?_) (he _)
 obtain ⟨d, rfl, q⟩ := q1
 cases r1
 exact wpAny_truthy_bool ⟨H1, I1, q⟩
variable {tA tB' : TT} {rest : List Expr}
def tAnd (t u : TT) : TT := fun σ H Q => t σ H fun c H1 => if c = true then u σ H1 Q else Q false H1
def tOr (t u : TT) : TT := fun σ H Q => t σ H fun c H1 => if c = true then Q true H1 else u σ H1 Q
def tNot (t : TT) : TT := fun σ H Q => t σ H fun c H1 => Q (!c) H1
theorem kL_ (ha : PT X a tA) : PW X (.BoolOp .And [a] pos) tA := by
 intro wh pins s σ H Q I h
 refine isTrue_and (thn (ha pins s σ H Q I h) fun c s1 e => ?_)
 cases c with
 | true => exact isTrue_and_nil e
 | false => exact e
theorem hZ_ (ha : PT X a tA) : PW X (.BoolOp .Or [a] pos) tA := by
 intro wh pins s σ H Q I h
 refine isTrue_or (thn (ha pins s σ H Q I h) fun c s1 e => ?_)
 cases c with
 | false => exact isTrue_or_nil e
 | true => exact e
theorem mv_ (ha : PT X a tA) (hb : PW X (.BoolOp .And (b :: rest) pos) tB') : PW X (.BoolOp .And (a :: b :: rest) pos) (tAnd tA tB') := by
 intro wh pins s σ H Q I h
 refine isTrue_and (thn (ha pins s σ H _ I h) fun c s1 ⟨H1, I1, q1⟩ => ?_)
 cases c with
 | true => exact hb wh pins s1 σ H1 Q I1 q1
 | false => exact ⟨H1, I1, q1⟩
theorem pw_or (ha : PT X a tA) (hb : PW X (.BoolOp .Or (b :: rest) pos) tB') : PW X (.BoolOp .Or (a :: b :: rest) pos) (tOr tA tB') := by
 intro wh pins s σ H Q I h
 refine isTrue_or (thn (ha pins s σ H _ I h) fun c s1 ⟨H1, I1, q1⟩ => ?_)
 cases c with
 | true => exact ⟨H1, I1, q1⟩
 | false => exact hb wh pins s1 σ H1 Q I1 q1
theorem d5_ (ha : PT X a tA) : PT X (.UnaryOp .Not a pos) (tNot tA) := by
 intro pins s σ H Q I h
 exact isTrue_not (ha pins s σ H (fun c H1 => Q (!c) H1) I h)
def tAndV (ta tb : TE) : TE := fun σ H Q => ta σ H fun x H1 => ∃ c, x = .bl c ∧ if c = true then tb σ H1 Q else Q (.bl false) H1
def tOrV (ta tb : TE) : TE := fun σ H Q => ta σ H fun x H1 => ∃ c, x = .bl c ∧ if c = true then Q (.bl true) H1 else tb σ H1 Q
def tNotV (ta : TE) : TE := fun σ H Q => ta σ H fun x H1 => ∃ c, x = .bl c ∧ Q (.bl (!c)) H1
theorem kM_ {op} {t : TE} (h : PE X a t) : PE X (.BoolOp op [a] pos) t := fun pins s σ H Q I hw => BoolOp_one (h pins s σ H Q I hw)
theorem jG_ (ha : PE X a ta) (hb : PE X (.BoolOp .And (b :: rest) pos) tb) : PE X (.BoolOp .And (a :: b :: rest) pos) (tAndV ta tb) := by
 intro pins s σ H Q I h
 refine BoolOp_and (thn (ha pins s σ H _ I h) fun v s1 ⟨x, H1, I1, r1, q1⟩ => ?_)
 obtain ⟨c, rfl, q1⟩ := q1
 cases r1
 refine wpAny_truthy_bool ?_
 cases c with
 | true => exact hb pins s1 σ H1 Q I1 q1
 | false => exact ⟨.bl false, H1, I1, rfl, q1⟩
theorem mw_ (ha : PE X a ta) : PE X (.UnaryOp .Not a pos) (tNotV ta) := by
 intro pins s σ H Q I h
 refine UnaryOp_ (thn (ha pins s σ H _ I h) fun v s1 ⟨x, H1, I1, r1, q1⟩ => ?_)
 obtain ⟨c, rfl, q1⟩ := q1
 cases r1
 exact not_of (wpAny_truthy_bool ⟨.bl (!c), H1, I1, rfl, q1⟩)
end
end L2
namespace L2
open PySem PySem.Spec PyProof.Rows
def SqL (K : PySem.W.Frag) (H : Hp) (a : Addr) (xs : List V) : Prop :=
 Rd H a (.lst xs) ∨
  ∃ (o : Obj) (its : Array Value) (n : Nat), K.lookup a = some o ∧ o.cls = .type "list" ∧ o.dict = none ∧ o.data = .seq its n ∧ its.size ≤ sizeLine ∧ Vals xs its.toList
def SqT (K : PySem.W.Frag) (H : Hp) (a : Addr) (xs : List V) : Prop :=
 Rd H a (.tup xs) ∨
  ∃ (o : Obj) (its : Array Value) (n : Nat), K.lookup a = some o ∧ o.cls = .type "tuple" ∧ o.data = .seq its n ∧ its.size ≤ sizeLine ∧ Vals xs its.toList
def absV : Value → Option V
 | .none => some .non
 | .bool b => some (.bl b)
 | .int i _ => some (.int i)
 | .str x _ => some (.str x)
 | .bytes b _ => some (.byt b)
 | .float b _ => some (.flt b)
 | .ref a => some (.ref a)
 | .type n => some (.ty n)
 | _ => none
theorem RelV.abs {x : V} {u : Value} (r : RelV x u) : absV u = some x := by
 cases x with
 | non => cases r; rfl
 | bl _ => cases r; rfl
 | int _ => obtain ⟨t, rfl⟩ := r; rfl
 | str _ => obtain ⟨t, rfl⟩ := r; rfl
 | byt _ => obtain ⟨t, rfl⟩ := r; rfl
 | flt _ => obtain ⟨t, rfl⟩ := r; rfl
 | ref _ => cases r; rfl
 | ty _ => cases r; rfl
theorem RelV.inj {x y : V} {u : Value} (r : RelV x u) (q : RelV y u) : x = y := Option.some.inj (r.abs.symm.trans q.abs)
theorem Vals.inj : ∀ {xs ys : List V} {us : List Value}, Vals xs us → Vals ys us → xs = ys
 | _, _, _, .nil, .nil => rfl
 | _, _, _, .cons r t, .cons r' t' => by rw [r.inj r', Vals.inj t t']
section
variable {X : Cx} {pins : List (Addr × Obj)} {σ : St} {H : Hp} {s : Shared} {a : Addr} {xs ys : List V}
theorem SqL.of {K : PySem.W.Frag} (h : H a = some (.lst xs)) : SqL K H a xs := .inl (.inl h)
theorem SqT.of {K : PySem.W.Frag} (h : H a = some (.tup xs)) : SqT K H a xs := .inl (.inl h)
theorem Inv.list (I : Inv X pins σ H s) (h : SqL X.K H a xs) : ∃ its : List Value, Vals xs its ∧ PlainL s.heap a its.toArray ∧ xs.length ≤ sizeLine := by
 rcases h with h | ⟨o, its, n, hk, hc, hd, hs, hz, r⟩
 ·obtain ⟨z, its, n, r, e⟩ := h.ok I.hok
  exact ⟨its, r, ⟨_, n, e, rfl, rfl, rfl⟩, z⟩
 ·refine ⟨its.toList, r, ⟨o, n, I.kIn a o hk, hc, hd, by simpa using hs⟩, ?_⟩
  have e := r.length
  simp only [Array.length_toList] at e
  omega
theorem Inv.tuple (I : Inv X pins σ H s) (h : SqT X.K H a xs) : ∃ its : List Value, Vals xs its ∧ IsTup s.heap a its.toArray ∧ xs.length ≤ sizeLine := by
 rcases h with h | ⟨o, its, n, hk, hc, hs, hz, r⟩
 ·obtain ⟨z, its, r, p⟩ := h.ok I.hok
  exact ⟨its, r, p, z⟩
 ·refine ⟨its.toList, r, ⟨o, I.kIn a o hk, hc, n, by simpa using hs⟩, ?_⟩
  have e := r.length
  simp only [Array.length_toList] at e
  omega
theorem Inv.list_inj (I : Inv X pins σ H s) (h : SqL X.K H a xs) (h' : SqL X.K H a ys) : xs = ys := by
 obtain ⟨its, r, ⟨o, n, e, _, _, d⟩, _⟩ := I.list h
 obtain ⟨its', r', ⟨o', n', e', _, _, d'⟩, _⟩ := I.list h'
 rw [e] at e'; cases e'
 rw [d] at d'
 injection d' with d1 _
 have : its = its' := by simpa using congrArg Array.toList d1
 subst this
 exact r.inj r'
theorem Inv.tuple_inj (I : Inv X pins σ H s) (h : SqT X.K H a xs) (h' : SqT X.K H a ys) : xs = ys := by
 obtain ⟨its, r, ⟨o, e, _, n, d⟩, _⟩ := I.tuple h
 obtain ⟨its', r', ⟨o', e', _, n', d'⟩, _⟩ := I.tuple h'
 rw [e] at e'; cases e'
 rw [d] at d'
 injection d' with d1 _
 have : its = its' := by simpa using congrArg Array.toList d1
 subst this
 exact r.inj r'
end
abbrev Cx.wish (X : Cx) (E : Value → Shared → Prop) : Cx := { X with xe := E }
abbrev Cx.nox (X : Cx) : Cx := X.wish fun _ _ => False
theorem Cx.Ok.wish {X : Cx} (ok : X.Ok) (E : Value → Shared → Prop) : (X.wish E).Ok :=
 ⟨ok.mod, ok.kind, ok.glob, ok.blt, ok.above, ok.inj, ok.has, ok.cab, ok.hd, ok.frames, ok.stk, ok.exf, ok.bs, ok.bsz, ok.noex, ok.exfs, ok.funs, ok.frf⟩
theorem Cx.Ok.unwish {X : Cx} {E : Value → Shared → Prop} (ok : (X.wish E).Ok) : X.Ok :=
 ⟨ok.mod, ok.kind, ok.glob, ok.blt, ok.above, ok.inj, ok.has, ok.cab, ok.hd, ok.frames, ok.stk, ok.exf, ok.bs, ok.bsz, ok.noex, ok.exfs, ok.funs, ok.frf⟩
section
variable {X : Cx} {pins : List (Addr × Obj)} {σ : St} {H : Hp} {s : Shared} {E : Value → Shared → Prop}
theorem Inv.wish (I : Inv X pins σ H s) (E : Value → Shared → Prop) : Inv (X.wish E) pins σ H s := ⟨I.ok.wish E, I.os, I.bare, I.base, I.loc, I.cell, I.free, I.freeC, I.pin, I.hok, I.len⟩
theorem Inv.unwish (I : Inv (X.wish E) pins σ H s) : Inv X pins σ H s := ⟨I.ok.unwish, I.os, I.bare, I.base, I.loc, I.cell, I.free, I.freeC, I.pin, I.hok, I.len⟩
theorem SP.unwish {D : Ends} {f : Flow} {s' : Shared} (h : SP (X.wish E) pins D f s') : SP X pins D f s' := by
 cases f with
 | next => obtain ⟨σ', H', I, q⟩ := h; exact ⟨σ', H', I.unwish, q⟩
 | brk => obtain ⟨σ', H', I, q⟩ := h; exact ⟨σ', H', I.unwish, q⟩
 | cont => obtain ⟨σ', H', I, q⟩ := h; exact ⟨σ', H', I.unwish, q⟩
 | ret u => obtain ⟨v, σ', H', I, r, q⟩ := h; exact ⟨v, σ', H', I.unwish, r, q⟩
theorem PE.nox {e : Expr} {t : TE} (h : PE X.nox e t) : PE X e t := fun pins s σ H Q I hw =>
 wpAny_mono (h pins s σ H Q (I.wish _) hw) (fun _ _ ⟨v, H', I', r, q⟩ => ⟨v, H', I'.unwish, r, q⟩) fun _ _ z => False.elim z
theorem PT.nox {e : Expr} {t : TT} (h : PT X.nox e t) : PT X e t := fun pins s σ H Q I hw =>
 wpAny_mono (h pins s σ H Q (I.wish _) hw) (fun _ _ ⟨H', I', q⟩ => ⟨H', I'.unwish, q⟩) fun _ _ z => False.elim z
theorem PSs.nox {st : List Stmt} {t : TS} (h : PSs X.nox st t) : PSs X st t := fun pins s σ H D I hw =>
 wpAny_mono (h pins s σ H D (I.wish _) hw) (fun _ _ q => q.unwish) fun _ _ z => False.elim z
end
section
variable {X : Cx} {st : Stmt} {rest : List Stmt} {t u : TS} {e : Expr} {te : TE} {pos : Pos}
def tNext : TS := fun D σ H => D.nx σ H
def tSeq (t u : TS) : TS := fun D σ H => t { D with nx := u D } σ H
theorem aL_ : PSs X [] tNext := fun _ _ σ H _ I h => wpAny_execs_nil ⟨σ, H, I, h⟩
theorem ad_ (h1 : PS X st t) (h2 : PSs X rest u) : PSs X (st :: rest) (tSeq t u) := by
 intro pins s σ H D I h
 refine wpAny_execs_cons (thn (h1 pins s σ H { D with nx := u D } I h) fun f s1 q => ?_)
 cases f with
 | next =>
  obtain ⟨σ', H', I', q⟩ := q
  exact h2 pins s1 σ' H' D I' q
 | ret v => exact q
 | brk => exact q
 | cont => exact q
theorem ae_ (h1 : PS X st t) : PSs X [st] t := by
 intro pins s σ H D I h
 refine wpAny_execs_cons (thn (h1 pins s σ H D I h) fun f s1 q => ?_)
 cases f with
 | next => exact wpAny_execs_nil q
 | ret v => exact q
 | brk => exact q
 | cont => exact q
theorem Inv.quiet {pins : List (Addr × Obj)} {σ : St} {H : Hp} {s : Shared} (I : Inv X pins σ H s) : interactive X.env = false := by simp [interactive, I.ok.kind]
def tDrop (te : TE) : TS := fun D σ H => te σ H fun _ H1 => D.nx σ H1
theorem mX_ (he : PE X e te) (hs : swapsWith e none pos.line X.env = pure false := by rfl) : PS X (.Expr e pos) (tDrop te) := by
 intro pins s σ H D I h
 exact wpAny_Expr_any (thn (he pins s σ H _ I h) fun v s1 ⟨x, H1, I1, r1, q1⟩ => ⟨σ, H1, I1, q1⟩) I.quiet hs
def tRet (te : TE) : TS := fun D σ H => te σ H D.rt
theorem aq_ (he : PE X e te) : PS X (.Return (some e) pos) (tRet te) := by
 intro pins s σ H D I h
 exact wpAny_Return_some (thn (he pins s σ H _ I h) fun v s1 ⟨x, H1, I1, r1, q1⟩ => ⟨x, σ, H1, I1, r1, q1⟩)
def tRetN : TS := fun D _ H => D.rt .non H
def tIfS (c : TT) (t u : TS) : TS := fun D σ H => c σ H fun b H1 => if b = true then t D σ H1 else u D σ H1
theorem ps_if {c : Expr} {a b : List Stmt} {tc : TT} (hc : PT X c tc) (ha : PSs X a t) (hb : PSs X b u) : PS X (.If c a b pos) (tIfS tc t u) := by
 intro pins s σ H D I h
 refine wpAny_If (thn (hc pins s σ H _ I h) fun d s1 ⟨H1, I1, q1⟩ => ?_)
 cases d with
 | true => exact ha pins s1 σ H1 D I1 q1
 | false => exact hb pins s1 σ H1 D I1 q1
def tNever : TS := fun _ _ _ => False
theorem jH_ : PS X st tNever := fun _ _ _ _ _ _ h => h.elim
theorem h0_ {sts : List Stmt} : PSs X sts tNever := fun _ _ _ _ _ _ h => h.elim
end
abbrev TG := V → St → Hp → (St → Hp → Prop) → Prop
abbrev TGs := List V → St → Hp → (St → Hp → Prop) → Prop
def PG (X : Cx) (target : Expr) (t : TG) : Prop :=
 ∀ (pins : List (Addr × Obj)) (s : Shared) (σ : St) (H : Hp) (v : V) (u : Value) (Q : St → Hp → Prop), Inv X pins σ H s → RelV v u → t v σ H Q →
  wpAny (model X.prog X.w) X.A (assign target X.env u) (fun _ s' => ∃ σ' H', Inv X pins σ' H' s' ∧ Q σ' H') X.xe s
def PGs (X : Cx) (ts : List Expr) (t : TGs) : Prop :=
 ∀ (pins : List (Addr × Obj)) (s : Shared) (σ : St) (H : Hp) (vs : List V) (us : List Value) (Q : St → Hp → Prop), Inv X pins σ H s → Vals vs us → t vs σ H Q →
  wpAny (model X.prog X.w) X.A (assignInOrder ((assignEach ts X.env).map (·.2)) us) (fun _ s' => ∃ σ' H', Inv X pins σ' H' s' ∧ Q σ' H') X.xe s
abbrev TSet := V → V → V → Hp → (Hp → Prop) → Prop
def PSet (X : Cx) (t : TSet) : Prop :=
 ∀ (pins : List (Addr × Obj)) (s : Shared) (σ : St) (H : Hp) (o i v : V) (ov iv u : Value) (Q : Hp → Prop), Inv X pins σ H s → RelV o ov → RelV i iv → RelV v u → t o i v H Q →
  wpAny (model X.prog X.w) X.A (setItem ov iv u) (fun _ s' => ∃ H', Inv X pins σ H' s' ∧ Q H') X.xe s
section
variable {X : Cx} {pos : Pos}
def gName (i : Nat) : TG := fun v σ H Q => Q (σ.set i (some v)) H
theorem kN_ {i : Nat} {x : Str} (hN : X.N.Nodup) (hi : X.N[i]? = some x) (hx : Loc X.env.scope x) (hf : X.fn x = true ∨ X.env.scope.names.lookup x = some .local := by first | exact .inl rfl | exact .inr rfl | assumption) : PG X (.Name x pos) (gName i) := by
 intro pins s σ H v u Q I r h
 exact wpAny_assign_Name (eu_ I hN hi hx r (fun s' I' => ⟨_, H, I', h⟩) hf)
def gNil : TGs := fun vs σ H Q => vs = [] ∧ Q σ H
def gCons (t : TG) (u : TGs) : TGs := fun vs σ H Q => ∃ v r, vs = v :: r ∧ t v σ H fun σ' H' => u r σ' H' Q
theorem ba_ : PGs X [] gNil := by
 intro pins s σ H vs us Q I r h
 obtain ⟨e, h⟩ := h
 subst e
 cases r
 exact assignInOrder_nil ⟨σ, H, I, h⟩
theorem ap_ {e : Expr} {es : List Expr} {t : TG} {u : TGs} (h1 : PG X e t) (h2 : PGs X es u)
  (hs : (assignEach (e :: es) X.env).map (·.2) = assign e X.env :: (assignEach es X.env).map (·.2) := by rfl) : PGs X (e :: es) (gCons t u) := by
 intro pins s σ H vs us Q I r h
 obtain ⟨v, vr, e1, h⟩ := h
 subst e1
 cases r with
 | cons r rr =>
  rw [hs]
  refine assignInOrder_cons (thn (h1 pins s σ H _ _ _ I r h) fun _ s1 ⟨σ1, H1, I1, q1⟩ => ?_)
  exact h2 pins s1 σ1 H1 _ _ Q I1 rr q1
def gTup (K : PySem.W.Frag) (n : Nat) (t : TGs) : TG := fun v σ H Q => ∃ a xs, v = .ref a ∧ SqT K H a xs ∧ xs.length = n ∧ t xs σ H Q
theorem nR_ {es : List Expr} {k : Nat} {t : TGs} {n : Nat} (hc : X.calm = true) (h : PGs X es t)
  (hn : (assignEach es X.env).length = n := by rfl) (hst : (assignEach es X.env).findIdx? (·.1) = none := by rfl) : PG X (.Tuple es k pos) (gTup X.K n t) := by
 intro pins s σ H v u Q I r hw
 obtain ⟨a, xs, e1, hq, hl, hw⟩ := hw
 subst e1
 cases r
 obtain ⟨its, rv, ht, hz⟩ := I.tuple hq
 refine assign_Tuple_tuple (I.ok.hd hc) ht (by simp [hn, ← hl, rv.length]) hst fun h' hx => ?_
 have I1 : Inv X pins σ H { s with heap := h' } := I.kept (t' := s.toks) fun b o e => hx b o (Nat.ne_of_lt (Heap.lt_size e)) e
 exact h pins _ σ H xs _ Q I1 (by simpa using rv) hw
def gSub (to ti : TE) (t : TSet) : TG := fun v σ H Q => to σ H fun o H1 => ti σ H1 fun i H2 => t o i v H2 fun H3 => Q σ H3
theorem h1_ {o i : Expr} {to ti : TE} {t : TSet} (ho : PE X o to) (hi : PE X i ti) (hs : PSet X t)
  (ha : ∀ v, assign (.Subscript o i pos) X.env v = (do
   let ov ← holding [v] (eval o X.env)
   let iv ← holding [v, ov] (eval i X.env)
   standAt pos
   holding [v, ov, iv] (setItem ov iv v)
   release [v, ov, iv] []) := by intro _; rfl) : PG X (.Subscript o i pos) (gSub to ti t) := by
 intro pins s σ H v u Q I r h
 rw [ha]
 refine wpAny_bind (wpAny_holding (thn (ho pins s σ H _ I h) fun ov s1 ⟨x, H1, I1, r1, q1⟩ => ?_))
 refine wpAny_bind (wpAny_holding (thn (hi pins s1 σ H1 _ I1 q1) fun iv s2 ⟨y, H2, I2, r2, q2⟩ => ?_))
 refine wpAny_bind (wpAny_standAt (wpAny_bind (wpAny_holding (thn (hs pins s2 σ H2 x y v ov iv u _ I2 r1 r2 r q2) fun _ s3 ⟨H3, I3, q3⟩ => ?_))))
 exact wpAny_release ⟨σ, H3, I3, q3⟩
def tAsg (te : TE) (g : TG) : TS := fun D σ H => te σ H fun x H1 => g x σ H1 D.nx
theorem dw_ {tg e : Expr} {te : TE} {g : TG} (he : PE X e te) (hg : PG X tg g) (hs : swapsWithSole [tg] e pos.line X.env = pure false := by rfl) (hw : swappedStores [tg] e X.env = pure none := by rfl)
  (h1 : (assignEach [tg] X.env).map (·.2) = [assign tg X.env] := by rfl) : PS X (.Assign [tg] e pos) (tAsg te g) := by
 intro pins s σ H D I h
 refine wpAny_Assign_stores (thn (he pins s σ H _ I h) fun v s1 ⟨x, H1, I1, r1, q1⟩ => ?_) hs hw
 rw [h1]
 exact thn (hg pins s1 σ H1 x v _ I1 r1 q1) fun _ s2 q => q
theorem mx_ {i : Nat} {x : Str} {e : Expr} {te : TE} {pos' : Pos} (hN : X.N.Nodup) (hi : X.N[i]? = some x) (hx : Loc X.env.scope x) (he : PE X e te) (hs : swapsWith e (some (.Name x pos')) pos.line X.env = pure false := by rfl) (hf : X.fn x = true ∨ X.env.scope.names.lookup x = some .local := by first | exact .inl rfl | exact .inr rfl | assumption) :
  PS X (.Assign [.Name x pos'] e pos) (tAsg te (gName i)) := by
 intro pins s σ H D I h
 refine wpAny_Assign_Name (thn (he pins s σ H _ I h) fun v s1 ⟨y, H1, I1, r1, q1⟩ => ?_) hs
 exact eu_ I1 hN hi hx r1 (fun s2 I2 => ⟨_, H1, I2, q1⟩) hf
def tPar (i j : Nat) (ta : TA) : TS := fun D σ H => ta σ H fun vs H1 => ∃ v w, vs = [v, w] ∧ D.nx ((σ.set i (some v)).set j (some w)) H1
theorem my_ {i j : Nat} {x y : Str} {a b : Expr} {ta : TA} {px py pt : Pos} {kt k2 pt2} (hc : X.calm = true) (hN : X.N.Nodup) (hi : X.N[i]? = some x) (hj : X.N[j]? = some y) (hij : i ≠ j)
  (hx : X.env.scope.names.lookup x = some .local) (hy : X.env.scope.names.lookup y = some .local) (ha : PA X [a, b] ta)
  (hw : swappedStores [.Tuple [.Name x px, .Name y py] kt pt] (.Tuple [a, b] k2 pt2) X.env = pure (some [x, y]))
  (hs : swapsWithSole [.Tuple [.Name x px, .Name y py] kt pt] (.Tuple [a, b] k2 pt2) pos.line X.env = pure false := by rfl) :
  PS X (.Assign [.Tuple [.Name x px, .Name y py] kt pt] (.Tuple [a, b] k2 pt2) pos) (tPar i j ta) := by
 intro pins s σ H D I h
 rw [exec_Assign_arm]
 refine wpAny_bind (wpAny_standAt ?_)
 rw [hs]
 refine wpAny_bind (wpAny_pure ?_)
 rw [if_neg (by decide)]
 refine wpAny_bind (Tuple_ (thn (ha _ pins s σ H _ I h) fun us s1 ⟨vs, H1, I1, r1, q1⟩ => ?_))
 obtain ⟨v, w, e1, q1⟩ := q1
 subst e1
 obtain ⟨u1, u2, rfl, rv, rw'⟩ : ∃ u1 u2, us = [u1, u2] ∧ RelV v u1 ∧ RelV w u2 := by
  cases r1 with
  | cons p q =>
   cases q with
   | cons p' q' =>
    cases q'
    exact ⟨_, _, rfl, p, p'⟩
 refine wpAny_newObj_type ?_ (by show 2 ≤ sizeLine; decide)
 have I2 : Inv X pins σ H1 { s1 with heap := s1.heap.push { cls := .type "tuple", data := .seq [u1, u2].toArray } } := I1.kept (t' := s1.toks) fun b o e => Heap.get?_push_of_some _ e
 rw [hw]
 refine wpAny_bind (wpAny_pure ?_)
 show wpAny (model X.prog X.w) X.A (do rule "assign.swapped-stores"; let items ← unpackItems (.ref s1.heap.objs.size) 2 none; assignInOrder [fun v => bindName X.env y v, fun v => bindName X.env x v] items.reverse; pure Flow.next) _ _ _
 refine wpAny_bind (wpAny_rule (wpAny_bind (unpackItems_tuple (items := #[u1, u2]) (I.ok.hd hc) (IsTup.new s1.heap _) fun h' hx' => ?_)))
 have I3 := I2.kept (h' := h') (t' := s1.toks) fun b o e => hx' b o (Nat.ne_of_lt (Heap.lt_size e)) e
 show wpAny _ _ (assignInOrder [fun v => bindName X.env y v, fun v => bindName X.env x v] [u2, u1] >>= fun _ => pure Flow.next) _ _ _
 refine wpAny_bind (assignInOrder_cons (wpAny_bindName (eu_ I3 hN hj (.inl hy) rw' (fun s2 I4 => ?_) (.inr hy))))
 refine assignInOrder_cons (wpAny_bindName (eu_ I4 hN hi (.inl hx) rv (fun s3 I5 => assignInOrder_nil (wpAny_pure ?_)) (.inr hx)))
 rw [List.set_comm _ _ (Ne.symm hij)] at I5
 exact ⟨_, H1, I5, q1⟩
end
section
variable {X : Cx} {pos : Pos}
def tWhile (c : TT) (tb : TS) : TS := fun D σ H => ∃ W : Nat → St → Hp → Prop, (∃ m, W m σ H) ∧ ∀ m σ H, W m σ H →
 c σ H fun b H1 => if b = true then ∃ N : St → Hp → Prop, (∀ σ' H', N σ' H' → ∃ m', m' < m ∧ W m' σ' H') ∧ tb { D with nx := N, ct := N, bk := D.nx } σ H1 else D.nx σ H1
theorem ew_ {c : Expr} {body : List Stmt} {tc : TT} {tb : TS} (hp : PassesOwn (model X.prog X.w) X.A X.env X.xe) (hc : PT X c tc) (hb : PSs X body tb) : PS X (.While c body [] pos) (tWhile tc tb) := by
 intro pins s σ H D I h
 obtain ⟨W, ⟨m0, w0⟩, turn⟩ := h
 refine wpAny_While (codeAny_whileLoop (fun n s' => ∃ σ' H', Inv X pins σ' H' s' ∧ W n σ' H') ?_ m0 ⟨σ, H, I, w0⟩)
 rintro n s1 ⟨σ1, H1, I1, w1⟩
 refine wpAny_passesOwn hp (thn (hc pins s1 σ1 H1 _ I1 (turn n σ1 H1 w1)) fun b s2 ⟨H2, I2, q2⟩ => ?_)
 cases b with
 | true =>
  obtain ⟨N, hN, q2⟩ := q2
  rw [if_pos rfl]
  refine wpAny_passesOwn hp (thn (hb pins s2 σ1 H2 _ I2 q2) fun f s3 q3 => ?_)
  cases f with
  | next =>
   obtain ⟨σ3, H3, I3, n3⟩ := q3
   obtain ⟨m', hm, w3⟩ := hN σ3 H3 n3
   exact ⟨m', hm, σ3, H3, I3, w3⟩
  | cont =>
   obtain ⟨σ3, H3, I3, n3⟩ := q3
   obtain ⟨m', hm, w3⟩ := hN σ3 H3 n3
   exact ⟨m', hm, σ3, H3, I3, w3⟩
  | brk => exact q3
  | ret v => exact q3
 | false =>
  rw [if_neg Bool.false_ne_true]
  exact wpAny_execs_nil ⟨σ1, H2, I2, q2⟩
end
structure It where
 go : Nat → Hp → Prop
 yld : Nat → Hp → V → Hp → Prop
 stop : Nat → Hp → Prop
def FpOk (X : Cx) (pins : List (Addr × Obj)) (H : Hp) (b : Addr) : Prop :=
 H b = none ∧ b ≠ X.env.locals ∧ b ∉ X.fs ∧ (b ∈ X.ex ∨ X.s₀.heap.objs.size ≤ b) ∧ (∀ x c, X.env.cells.lookup x = some c → c ≠ b) ∧ ∀ p ∈ X.pn ++ pins, p.1 ≠ b
theorem Inv.fpOk {X : Cx} {pins : List (Addr × Obj)} {σ : St} {H H' : Hp} {s : Shared} {b : Addr} (I : Inv X pins σ H s) (hb : s.heap.objs.size ≤ b) (hn : H' b = none) : FpOk X pins H' b := by
 refine ⟨hn, Nat.ne_of_gt (Nat.lt_of_lt_of_le I.lt hb), I.nofs hb, .inr (Nat.le_trans I.sz hb), fun x c e z => ?_, fun p hp z => ?_⟩
 ·obtain ⟨v, q⟩ := I.cell x c e
  exact absurd (Nat.lt_of_lt_of_le q.lt (by rw [z]; exact hb)) (Nat.lt_irrefl _)
 ·exact absurd (Nat.lt_of_lt_of_le (Heap.lt_size (I.pin p hp).1) (by rw [z]; exact hb)) (Nat.lt_irrefl _)
structure Turn (P : Program) (w : World) (K : PySem.W.Frag) (tg : Expr) (J : It) (fp : List Addr) (it : Addr) (tn : Nat → Heap → Prop) : Prop where
 mem : it ∈ fp
 obj : ∀ i h, tn i h → ∀ b ∈ fp, ∃ o, h.get? b = some o ∧ ∀ v, o.data ≠ .cell v
 keep : ∀ i h h', tn i h → (∀ b ∈ fp, ∀ o, h.get? b = some o → h'.get? b = some o) → tn i h'
 item : ∀ (X : Cx), X.prog = P → X.w = w → X.K = K → X.calm = true → ∀ (i : Nat) (pins : List (Addr × Obj)) (s : Shared) (σ : St) (H : Hp) (E : Value → Shared → Prop), Inv X pins σ H s → (∀ b ∈ fp, FpOk X pins H b) → tn i s.heap → J.go i H →
  wpAny (model P w) X.A (pyNext (.ref it)) (fun r s1 => ∃ u, r = some u ∧
   wpAny (model P w) X.A (letOwnedTupleGo tg (.ref it) u) (fun _ s2 => ∃ x H', Inv X pins σ H' s2 ∧ RelV x u ∧ J.yld i H x H' ∧ tn (i + 1) s2.heap ∧ ∀ b ∈ fp, H' b = none) E s1) E s
 done : ∀ (X : Cx), X.prog = P → X.w = w → X.K = K → X.calm = true → ∀ (i : Nat) (pins : List (Addr × Obj)) (s : Shared) (σ : St) (H : Hp) (E : Value → Shared → Prop), Inv X pins σ H s → (∀ b ∈ fp, FpOk X pins H b) → tn i s.heap → J.stop i H →
  wpAny (model P w) X.A (pyNext (.ref it)) (fun r s1 => r = none ∧ Inv X pins σ H s1) E s
 self : ∀ (A : Around) (i : Nat) (s : Shared) (Q : Value → Shared → Prop) (E : Value → Shared → Prop), tn i s.heap → Q (.ref it) s → wpAny (model P w) A (pyIter (.ref it)) Q E s
abbrev TI := St → Hp → (It → Hp → Prop) → Prop
def PIE (X : Cx) (pins : List (Addr × Obj)) (σ : St) (tg : Expr) (R : It → Hp → Prop) (itv : Value) (s2 : Shared) : Prop :=
 ∃ (it : Addr) (fp : List Addr) (tn : Nat → Heap → Prop) (J : It) (H' : Hp), itv = .ref it ∧ Inv X pins σ H' s2 ∧ Turn X.prog X.w X.K tg J fp it tn ∧ tn 0 s2.heap ∧ (∀ b ∈ fp, FpOk X pins H' b) ∧ R J H'
def PI (X : Cx) (tg iter : Expr) (wi : TI) : Prop :=
 ∀ (pins : List (Addr × Obj)) (s : Shared) (σ : St) (H : Hp) (R : It → Hp → Prop), Inv X pins σ H s → wi σ H R →
  wpAny (model X.prog X.w) X.A (eval iter X.env) (fun v s1 => wpAny (model X.prog X.w) X.A (pyIter v) (PIE X pins σ tg R) X.xe s1) X.xe s
theorem go_of {M : Model} {A : Around} {E : Value → Shared → Prop} {s : Shared} {tg : Expr} {it : Addr} {u : Value} {o : Obj} {n : String} {vs : Array Value} {Q : Unit → Shared → Prop} (ho : s.heap.get? it = some o) (hc : o.cls = .type n) (hd : o.data = .fields vs)
    (hn : ["enumerate", "zip", "dict_itemiterator", "dict_reverseitemiterator", "odict_iterator", "itertools.zip_longest", "itertools.pairwise"].contains n = false) (hQ : Q () s) : wpAny M A (letOwnedTupleGo tg (.ref it) u) Q E s := by
  unfold letOwnedTupleGo
  cases tg <;> first
    | exact wpAny_pure hQ
    | (cases u <;> first
        | exact wpAny_pure hQ
        | (refine wpAny_bind (wpAny_load ho ?_)
           rw [hc, hd]
           show wpAny M A (if (["enumerate", "zip", "dict_itemiterator", "dict_reverseitemiterator", "odict_iterator", "itertools.zip_longest", "itertools.pairwise"].contains n && vs[0]? == some (rawInt _)) = true then _ else _) Q E s
           rw [if_neg (by intro h; rw [hn, Bool.false_and] at h; cases h)]
           exact wpAny_pure hQ))
def Itl (K : PySem.W.Frag) (a : Addr) : It :=
 ⟨fun i H => ∃ xs x, SqL K H a xs ∧ xs[i]? = some x, fun i H x H' => H' = H ∧ ∀ xs, SqL K H a xs → xs[i]? = some x, fun i H => ∃ xs, SqL K H a xs ∧ xs.length ≤ i⟩
def Itt (K : PySem.W.Frag) (a : Addr) : It :=
 ⟨fun i H => ∃ xs x, SqT K H a xs ∧ xs[i]? = some x, fun i H x H' => H' = H ∧ ∀ xs, SqT K H a xs → xs[i]? = some x, fun i H => ∃ xs, SqT K H a xs ∧ xs.length ≤ i⟩
def Itr (lo : Int) (n : Nat) : It := ⟨fun i _ => i < n, fun i H x H' => H' = H ∧ x = .int (lo + i), fun i _ => n ≤ i⟩
theorem kO_ {P : Program} {w : World} {K : PySem.W.Frag} {tg : Expr} (a it : Addr) : Turn P w K tg (Itl K a) [it] it (fun i h => h.IsListIter it a i) where
 mem := by simp
 obj := fun i h st b hb => by
  have e : b = it := by simpa using hb
  subst e
  obtain ⟨o, e, c, d⟩ := st
  exact ⟨o, e, fun v z => by rw [d] at z; cases z⟩
 keep := fun i h h' st k => st.at fun o e => k it (by simp) o e
 item := by
  intro X hP hw hK hc i pins s σ H E I hf st hg
  subst hP hw hK
  obtain ⟨xs, x, hq, hx⟩ := hg
  obtain ⟨its, rv, p, hz⟩ := I.list hq
  obtain ⟨u, hu, ru⟩ := rv.get hx
  obtain ⟨f0, f1, f2, f3, f4, f5⟩ := hf it (by simp)
  refine wpAny_pyNext_list_item st p.isList (x := u) (by simpa using hu) fun h' st' sb => ?_
  have I1 : Inv X pins σ H { s with heap := h' } := I.turned (t' := s.toks) (fun b o hb e => (sb.2 b hb).trans e) f0 f1 f3 f4 f5
  obtain ⟨o, e, c, d⟩ := id st'
  exact ⟨u, rfl, go_of (s := { s with heap := h' }) e c d (by decide) ⟨x, H, I1, ru, ⟨rfl, fun ys hy => by rw [I.list_inj hy hq]; exact hx⟩, st', fun b hb => (hf b hb).1⟩⟩
 done := by
  intro X hP hw hK hc i pins s σ H E I hf st hg
  subst hP hw hK
  obtain ⟨xs, hq, hx⟩ := hg
  obtain ⟨its, rv, p, hz⟩ := I.list hq
  obtain ⟨f0, f1, f2, f3, f4, f5⟩ := hf it (by simp)
  have hl := rv.length
  exact wpAny_pyNext_list_end (I.ok.hd hc) st p.isList (by simp; omega) fun h' eb => ⟨rfl, I.turned (t' := s.toks) (fun b o hb e => eb b o hb e) f0 f1 f3 f4 f5⟩
 self := fun _ _ _ _ _ st h => wpAny_pyIter_listiter st h
theorem kk_ {P : Program} {w : World} {K : PySem.W.Frag} {tg : Expr} (a it : Addr) : Turn P w K tg (Itt K a) [it] it (fun i h => h.IsTupleIter it a i) where
 mem := by simp
 obj := fun i h st b hb => by
  have e : b = it := by simpa using hb
  subst e
  obtain ⟨o, e, c, d⟩ := st
  exact ⟨o, e, fun v z => by rw [d] at z; cases z⟩
 keep := fun i h h' st k => st.at fun o e => k it (by simp) o e
 item := by
  intro X hP hw hK hc i pins s σ H E I hf st hg
  subst hP hw hK
  obtain ⟨xs, x, hq, hx⟩ := hg
  obtain ⟨its, rv, p, hz⟩ := I.tuple hq
  obtain ⟨u, hu, ru⟩ := rv.get hx
  obtain ⟨f0, f1, f2, f3, f4, f5⟩ := hf it (by simp)
  refine wpAny_pyNext_tuple_item st (show s.heap.IsTuple a its.toArray from p) (x := u) (by simpa using hu) fun h' st' sb => ?_
  have I1 : Inv X pins σ H { s with heap := h' } := I.turned (t' := s.toks) (fun b o hb e => (sb.2 b hb).trans e) f0 f1 f3 f4 f5
  obtain ⟨o, e, c, d⟩ := id st'
  exact ⟨u, rfl, go_of (s := { s with heap := h' }) e c d (by decide) ⟨x, H, I1, ru, ⟨rfl, fun ys hy => by rw [I.tuple_inj hy hq]; exact hx⟩, st', fun b hb => (hf b hb).1⟩⟩
 done := by
  intro X hP hw hK hc i pins s σ H E I hf st hg
  subst hP hw hK
  obtain ⟨xs, hq, hx⟩ := hg
  obtain ⟨its, rv, p, hz⟩ := I.tuple hq
  obtain ⟨f0, f1, f2, f3, f4, f5⟩ := hf it (by simp)
  have hl := rv.length
  exact wpAny_pyNext_tuple_end (I.ok.hd hc) st (show s.heap.IsTuple a its.toArray from p) (by simp; omega) fun h' eb => ⟨rfl, I.turned (t' := s.toks) (fun b o hb e => eb b o hb e) f0 f1 f3 f4 f5⟩
 self := fun _ _ _ _ _ st h => wpAny_pyIter_tupleiter st h
theorem kl_ {P : Program} {w : World} {K : PySem.W.Frag} {tg : Expr} (it : Addr) (lo : Int) (n : Nat) : Turn P w K tg (Itr lo n) [it] it (fun i h => IsRangeIter h it (lo + (i : Nat) * 1) ((n : Int) - (i : Nat)) 1) where
 mem := by simp
 obj := fun i h st b hb => by
  have e : b = it := by simpa using hb
  subst e
  exact ⟨_, st, fun v z => by
   have z' : Data.fields _ = Data.cell v := z
   cases z'⟩
 keep := fun i h h' st k => k it (by simp) _ st
 item := by
  intro X hP hw hK hc i pins s σ H E I hf st hg
  subst hP hw hK
  obtain ⟨f0, f1, f2, f3, f4, f5⟩ := hf it (by simp)
  have W := Walks.range (prog := X.prog) (w := X.w) (I.ok.hd hc) it lo 1 n
  refine W.item i s _ _ hg st fun v h' tk hv st' kk => ?_
  obtain ⟨t, rfl⟩ := hv
  have I1 : Inv X pins σ H { s with heap := h', toks := tk } := I.turned (fun b o hb e => kk b o (by simpa using hb) e) f0 f1 f3 f4 f5
  refine ⟨_, rfl, go_of (s := { s with heap := h', toks := tk }) (n := "range_iterator") st' rfl rfl (by decide) ⟨.int (lo + i), H, I1, ⟨t, ?_⟩, ⟨rfl, rfl⟩, st', fun b hb => (hf b hb).1⟩⟩
  rw [Int.mul_one]
 done := by
  intro X hP hw hK hc i pins s σ H E I hf st hg
  subst hP hw hK
  obtain ⟨f0, f1, f2, f3, f4, f5⟩ := hf it (by simp)
  exact wpAny_pyNext_range_end (I.ok.hd hc) st (by have : n ≤ i := hg; omega) fun h' eb => ⟨rfl, I.turned (t' := s.toks) (fun b o hb e => eb b o hb e) f0 f1 f3 f4 f5⟩
 self := fun _ _ _ _ _ st h => wpAny_pyIter_rangeiter st h
end L2
namespace L2
open PySem PySem.Spec PyProof.Rows
section
variable {X : Cx} {tg : Expr}
def iList (K : PySem.W.Frag) (tl : TE) : TI := fun σ H R => tl σ H fun x H1 => ∃ a, x = .ref a ∧ (∃ xs, SqL K H1 a xs) ∧ R (Itl K a) H1
def iTup (K : PySem.W.Frag) (tl : TE) : TI := fun σ H R => tl σ H fun x H1 => ∃ a, x = .ref a ∧ (∃ xs, SqT K H1 a xs) ∧ R (Itt K a) H1
theorem mY_ {l : Expr} {tl : TE} (hl : PE X l tl) : PI X tg l (iList X.K tl) := by
 intro pins s σ H R I h
 refine thn (hl pins s σ H _ I h) fun v s1 ⟨x, H1, I1, r1, q1⟩ => ?_
 obtain ⟨a, e, ⟨xs, hq⟩, q⟩ := q1
 subst e
 cases r1
 obtain ⟨its, rv, p, hz⟩ := I1.list hq
 refine wpAny_pyIter_list p.isList ?_
 refine ⟨s1.heap.objs.size, [s1.heap.objs.size], _, _, H1, rfl, I1.kept (t' := s1.toks) fun b o e => Heap.get?_push_of_some _ e, kO_ a _, ⟨_, Heap.get?_push_size _ rfl, rfl, rfl⟩, fun b hb => ?_, q⟩
 have e : b = s1.heap.objs.size := by simpa using hb
 subst e
 exact I1.fpOk (Nat.le_refl _) (I1.hok.fresh (Nat.le_refl _))
theorem nS_ {l : Expr} {tl : TE} (hl : PE X l tl) : PI X tg l (iTup X.K tl) := by
 intro pins s σ H R I h
 refine thn (hl pins s σ H _ I h) fun v s1 ⟨x, H1, I1, r1, q1⟩ => ?_
 obtain ⟨a, e, ⟨xs, hq⟩, q⟩ := q1
 subst e
 cases r1
 obtain ⟨its, rv, p, hz⟩ := I1.tuple hq
 refine wpAny_pyIter_tuple (show s1.heap.IsTuple a its.toArray from p) ?_
 refine ⟨s1.heap.objs.size, [s1.heap.objs.size], _, _, H1, rfl, I1.kept (t' := s1.toks) fun b o e => Heap.get?_push_of_some _ e, kk_ a _, ⟨_, Heap.get?_push_size _ rfl, rfl, rfl⟩, fun b hb => ?_, q⟩
 have e : b = s1.heap.objs.size := by simpa using hb
 subst e
 exact I1.fpOk (Nat.le_refl _) (I1.hok.fresh (Nat.le_refl _))
theorem jI_ {pins : List (Addr × Obj)} {σ : St} {H : Hp} {s : Shared} {R : It → Hp → Prop} {E : Value → Shared → Prop} {lo hi : Int} {t u v : Tok} {tk : Nat} (I : Inv X pins σ H s) (h1 : -(2 ^ 62) ≤ lo) (h2 : lo < 2 ^ 62) (h3 : -(2 ^ 62) ≤ hi) (h4 : hi < 2 ^ 62)
  (q : R (Itr lo (hi - lo).toNat) H) : wpAny (model X.prog X.w) X.A (pyIter (.ref s.heap.objs.size)) (PIE X pins σ tg R) E { s with heap := s.heap.push { cls := .type "range", data := .fields #[.int lo t, .int hi u, .int 1 v] }, toks := tk } := by
 refine wpAny_pyIter_range (IsRange.new ..) (small_one h1 h2 h3 h4) ?_
 have I1 : Inv X pins σ H { s with heap := s.heap.push { cls := .type "range", data := .fields #[.int lo t, .int hi u, .int 1 v] }, toks := tk } := I.kept fun b o e => Heap.get?_push_of_some _ e
 refine ⟨(s.heap.push { cls := .type "range", data := .fields #[.int lo t, .int hi u, .int 1 v] }).objs.size, [(s.heap.push { cls := .type "range", data := .fields #[.int lo t, .int hi u, .int 1 v] }).objs.size], _, _, H, rfl,
  I1.kept (t' := tk) fun b o e => Heap.get?_push_of_some _ e, kl_ _ lo (hi - lo).toNat, ?_, fun b hb => ?_, q⟩
 ·have e1 : lo + ((0 : Nat) : Int) * 1 = lo := by simp
  have e2 : (((hi - lo).toNat : Nat) : Int) - ((0 : Nat) : Int) = Builtin.Range.rangeSize lo hi 1 := by rw [rangeSize_one]; split <;> omega
  show IsRangeIter _ _ (lo + ((0 : Nat) : Int) * 1) ((((hi - lo).toNat : Nat) : Int) - ((0 : Nat) : Int)) 1
  rw [e1, e2]
  exact Heap.get?_push_size _ rfl
 ·have e : b = (s.heap.push { cls := .type "range", data := .fields #[.int lo t, .int hi u, .int 1 v] }).objs.size := by simpa using hb
  subst e
  exact I1.fpOk (Nat.le_refl _) (I1.hok.fresh (Nat.le_refl _))
def iRng1 (ta : TA) : TI := fun σ H R => ta σ H fun vs H1 => ∃ j : Int, vs = [.int j] ∧ -(2 ^ 62) ≤ j ∧ j < 2 ^ 62 ∧ R (Itr 0 j.toNat) H1
def iRng2 (ta : TA) : TI := fun σ H R => ta σ H fun vs H1 => ∃ i j : Int, vs = [.int i, .int j] ∧ (-(2 ^ 62) ≤ i ∧ i < 2 ^ 62 ∧ -(2 ^ 62) ≤ j ∧ j < 2 ^ 62) ∧ R (Itr i (j - i).toNat) H1
theorem aS_ {a : Expr} {ta : TA} {p pos : Pos} (hg : Gl X "range") (hm : X.mg "range" = none) (ha : PA X [a] ta) (hs : starEach [a] X.env = [(false, eval a X.env)] := by rfl) : PI X tg (.Call (.Name "range" p) [a] [] pos) (iRng1 ta) := by
 intro pins s σ H R I h
 refine Call_ (ev_ I hg hm boot_range (PyProof.Rows.callWith_type1 (thn (ha pos pins s σ H _ I h) fun us s1 ⟨vs, H1, I1, r1, q1⟩ => ?_) hs rfl))
 obtain ⟨j, e, q1, q2, q⟩ := q1
 subst e
 cases r1 with
 | cons r rr =>
  cases rr
  obtain ⟨t, rfl⟩ := r
  exact call_range_1 (jI_ I1 (by omega) (by omega) q1 q2 (by simpa using q))
theorem kP_ {a b : Expr} {ta : TA} {p pos : Pos} (hg : Gl X "range") (hm : X.mg "range" = none) (ha : PA X [a, b] ta) (hs : starEach [a, b] X.env = [(false, eval a X.env), (false, eval b X.env)] := by rfl) (hs2 : starEach [b] X.env = [(false, eval b X.env)] := by rfl) :
  PI X tg (.Call (.Name "range" p) [a, b] [] pos) (iRng2 ta) := by
 intro pins s σ H R I h
 refine Call_ (ev_ I hg hm boot_range (PyProof.Rows.callWith_type1 (thn (ha pos pins s σ H _ I h) fun us s1 ⟨vs, H1, I1, r1, q1⟩ => ?_) (by rw [hs, hs2]) (by rw [hs2]; rfl)))
 obtain ⟨i, j, e, ⟨q1, q2, q3, q4⟩, q⟩ := q1
 subst e
 cases r1 with
 | cons r rr =>
  cases rr with
  | cons r' rr =>
   cases rr
   obtain ⟨t, rfl⟩ := r
   obtain ⟨t', rfl⟩ := r'
   exact call_range_2 (jI_ I1 q1 q2 q3 q4 q)
def tFor (wi : TI) (g : TG) (tb : TS) : TS := fun D σ H => wi σ H fun J H1 => ∃ W : Nat → Nat → St → Hp → Prop, (∃ m, W 0 m σ H1) ∧ ∀ i m σ H, W i m σ H →
 (J.stop i H ∧ D.nx σ H) ∨ (J.go i H ∧ ∃ N : St → Hp → Prop, (∀ σ' H', N σ' H' → ∃ m', m' < m ∧ W (i + 1) m' σ' H') ∧ ∀ x H', J.yld i H x H' → g x σ H' fun σ2 H2 => tb { D with nx := N, ct := N, bk := D.nx } σ2 H2)
def pinsAt (fp : List Addr) (h : Heap) : List (Addr × Obj) := fp.filterMap fun b => (h.get? b).map fun o => (b, o)
theorem dP_ {fp : List Addr} {h : Heap} {b : Addr} {o : Obj} (hb : b ∈ fp) (e : h.get? b = some o) : (b, o) ∈ pinsAt fp h := List.mem_filterMap.mpr ⟨b, hb, by rw [e]; rfl⟩
theorem kQ_ {fp : List Addr} {h : Heap} {p : Addr × Obj} (hp : p ∈ pinsAt fp h) : p.1 ∈ fp ∧ h.get? p.1 = some p.2 := by
 obtain ⟨b, hb, e⟩ := List.mem_filterMap.mp hp
 cases q : h.get? b with
 | none => rw [q] at e; cases e
 | some o =>
  rw [q] at e
  have e' : (b, o) = p := Option.some.inj e
  subst e'
  exact ⟨hb, q⟩
theorem Inv.pinned {pins : List (Addr × Obj)} {σ : St} {H : Hp} {s : Shared} {fp : List Addr} (I : Inv X pins σ H s) (hf : ∀ b ∈ fp, FpOk X pins H b) (ho : ∀ b ∈ fp, ∃ o, s.heap.get? b = some o ∧ ∀ v, o.data ≠ .cell v) : Inv X (pins ++ pinsAt fp s.heap) σ H s :=
 I.pins_of fun p hp => (List.mem_append.mp hp).elim (fun z => I.pin p (List.mem_append_right _ z)) fun z => by
  obtain ⟨hb, e⟩ := kQ_ z
  obtain ⟨f0, f1, f2, _⟩ := hf p.1 hb
  obtain ⟨o, e', d⟩ := ho p.1 hb
  rw [e] at e'; cases e'
  exact ⟨e, f0, f1, f2, d⟩
theorem Inv.unpinned {pins pl : List (Addr × Obj)} {σ : St} {H : Hp} {s : Shared} (I : Inv X (pins ++ pl) σ H s) : Inv X pins σ H s := I.pins_of fun p hp => I.pin p (List.mem_append_right _ (List.mem_append_left _ hp))
theorem bg_ {iter : Expr} {body : List Stmt} {wi : TI} {g : TG} {tb : TS} {pos : Pos} (hp : PassesOwn (model X.prog X.w) X.A X.env X.xe) (hc : X.calm = true) (hi : PI X tg iter wi) (hg : PG X tg g) (hb : PSs X body tb)
  (hs : ∀ x, foldedSetIterable iter X.env x = pure x := by intro _; rfl) : PS X (.For tg iter body [] pos) (tFor wi g tb) := by
 intro pins s σ H D I h
 refine wpAny_For (thn (hi pins s σ H _ I h) fun v s1 h1 => thn h1 fun itv s2 h2 => ?_) hs
 obtain ⟨it, fp, tn, J, H2, e, I2, T, st2, f2, W, ⟨m0, w0⟩, turn⟩ := h2
 subst e
 -- what stays true of the iterator's objects through the loop
 have stat : ∀ {H' : Hp}, (∀ b ∈ fp, H' b = none) → ∀ b ∈ fp, FpOk X pins H' b := fun hn b hb => ⟨hn b hb, (f2 b hb).2⟩
 refine codeAny_forLoop_any (fun n s' => ∃ i σ' H', Inv X pins σ' H' s' ∧ tn i s'.heap ∧ (∀ b ∈ fp, H' b = none) ∧ W i n σ' H') ?_ m0 ⟨0, σ, H2, I2, st2, fun b hb => (f2 b hb).1, w0⟩
 rintro n s3 ⟨i, σ3, H3, I3, st3, fr3, w3⟩
 rcases turn i n σ3 H3 w3 with ⟨stop, qn⟩ | ⟨go, N, hN, step⟩
 ·refine wpAny_passesOwn hp (thn (T.done X rfl rfl rfl hc i pins s3 σ3 H3 X.xe I3 (stat fr3) st3 stop) fun r s4 ⟨hr, I4⟩ => ?_)
  subst hr
  exact wpAny_execs_nil ⟨σ3, H3, I4, qn⟩
 ·refine wpAny_passesOwn hp (thn (T.item X rfl rfl rfl hc i pins s3 σ3 H3 X.xe I3 (stat fr3) st3 go) fun r s4 ⟨u, hr, h4⟩ => ?_)
  subst hr
  refine wpAny_passesOwn hp (thn h4 fun _ s5 ⟨x, H5, I5, r5, y5, st5, fr5⟩ => ?_)
  have I5' := I5.pinned (stat fr5) (T.obj _ _ st5)
  refine wpAny_passesOwn hp (thn (hg _ s5 σ3 H5 x u _ I5' r5 (step x H5 y5)) fun _ s6 ⟨σ6, H6, I6, q6⟩ => ?_)
  refine wpAny_passesOwn hp (thn (hb _ s6 σ6 H6 _ I6 q6) fun f s7 q7 => ?_)
  have again : ∀ {σ7 : St} {H7 : Hp}, Inv X (pins ++ pinsAt fp s5.heap) σ7 H7 s7 → N σ7 H7 → ∃ m, m < n ∧ ∃ i σ' H', Inv X pins σ' H' s7 ∧ tn i s7.heap ∧ (∀ b ∈ fp, H' b = none) ∧ W i m σ' H' := fun {σ7 H7} I7 n7 => by
   obtain ⟨m', hm, w7⟩ := hN σ7 H7 n7
   refine ⟨m', hm, i + 1, σ7, H7, I7.unpinned, T.keep _ _ _ st5 fun b hb o e => (I7.pin (b, o) (List.mem_append_right _ (List.mem_append_right _ (dP_ hb e)))).1, fun b hb => ?_, w7⟩
   obtain ⟨o, e, d⟩ := T.obj _ _ st5 b hb
   exact (I7.pin (b, o) (List.mem_append_right _ (List.mem_append_right _ (dP_ hb e)))).2.1
  cases f with
  | next => obtain ⟨σ7, H7, I7, n7⟩ := q7; exact again I7 n7
  | cont => obtain ⟨σ7, H7, I7, n7⟩ := q7; exact again I7 n7
  | brk => obtain ⟨σ7, H7, I7, q7⟩ := q7; exact ⟨σ7, H7, I7.unpinned, q7⟩
  | ret v => obtain ⟨x7, σ7, H7, I7, r7, q7⟩ := q7; exact ⟨x7, σ7, H7, I7.unpinned, r7, q7⟩
end
theorem lT_ {K : PySem.W.Frag} {a : Addr} {xs : List V} {g : TG} {tb : TS} {D : Ends} {σ : St} {H : Hp} (Pv : Nat → St → Hp → Prop) (h0 : Pv 0 σ H) (hl : ∀ i σ H, i ≤ xs.length → Pv i σ H → SqL K H a xs)
  (hs : ∀ i x σ H, xs[i]? = some x → Pv i σ H → g x σ H fun σ2 H2 => tb { D with nx := Pv (i + 1), ct := Pv (i + 1), bk := D.nx } σ2 H2) (hd : ∀ σ H, Pv xs.length σ H → D.nx σ H) :
  ∃ W : Nat → Nat → St → Hp → Prop, (∃ m, W 0 m σ H) ∧ ∀ i m σ H, W i m σ H →
   ((Itl K a).stop i H ∧ D.nx σ H) ∨ ((Itl K a).go i H ∧ ∃ N : St → Hp → Prop, (∀ σ' H', N σ' H' → ∃ m', m' < m ∧ W (i + 1) m' σ' H') ∧ ∀ x H', (Itl K a).yld i H x H' → g x σ H' fun σ2 H2 => tb { D with nx := N, ct := N, bk := D.nx } σ2 H2) := by
 refine ⟨fun i m σ H => m = xs.length - i ∧ i ≤ xs.length ∧ Pv i σ H, ⟨xs.length, by simp, Nat.zero_le _, h0⟩, ?_⟩
 rintro i m σ H ⟨rfl, hi, p⟩
 have q := hl i σ H hi p
 by_cases hlt : i < xs.length
 ·refine .inr ⟨⟨xs, xs[i], q, by simp [hlt]⟩, Pv (i + 1), fun σ' H' p' => ⟨xs.length - (i + 1), by omega, rfl, hlt, p'⟩, fun x H' y => ?_⟩
  obtain ⟨e, y⟩ := y
  subst e
  exact hs i x σ _ (y xs q) p
 ·have e : i = xs.length := by omega
  subst e
  exact .inl ⟨⟨xs, q, Nat.le_refl _⟩, hd σ H p⟩
theorem kR_ {lo : Int} {n : Nat} {g : TG} {tb : TS} {D : Ends} {σ : St} {H : Hp} (Pv : Nat → St → Hp → Prop) (h0 : Pv 0 σ H)
  (hs : ∀ i σ H, i < n → Pv i σ H → g (.int (lo + i)) σ H fun σ2 H2 => tb { D with nx := Pv (i + 1), ct := Pv (i + 1), bk := D.nx } σ2 H2) (hd : ∀ σ H, Pv n σ H → D.nx σ H) :
  ∃ W : Nat → Nat → St → Hp → Prop, (∃ m, W 0 m σ H) ∧ ∀ i m σ H, W i m σ H →
   ((Itr lo n).stop i H ∧ D.nx σ H) ∨ ((Itr lo n).go i H ∧ ∃ N : St → Hp → Prop, (∀ σ' H', N σ' H' → ∃ m', m' < m ∧ W (i + 1) m' σ' H') ∧ ∀ x H', (Itr lo n).yld i H x H' → g x σ H' fun σ2 H2 => tb { D with nx := N, ct := N, bk := D.nx } σ2 H2) := by
 refine ⟨fun i m σ H => m = n - i ∧ i ≤ n ∧ Pv i σ H, ⟨n, by simp, Nat.zero_le _, h0⟩, ?_⟩
 rintro i m σ H ⟨rfl, hi, p⟩
 by_cases hlt : i < n
 ·refine .inr ⟨hlt, Pv (i + 1), fun σ' H' p' => ⟨n - (i + 1), by omega, rfl, hlt, p'⟩, fun x H' y => ?_⟩
  obtain ⟨e, y⟩ := y
  subst e y
  exact hs i σ _ hlt p
 ·have e : i = n := by omega
  subst e
  exact .inl ⟨Nat.le_refl _, hd σ H p⟩
end L2
namespace L2
open PySem PySem.Spec PyProof.Rows
abbrev R2 := V → V → Hp → VK → Prop
def OpR (X : Cx) (f : Value → Value → Sem Value) (r : R2) : Prop :=
 ∀ (pins : List (Addr × Obj)) (s : Shared) (σ : St) (H : Hp) (x y : V) (v u : Value) (Q : VK), Inv X pins σ H s → RelV x v → RelV y u → r x y H Q →
  wpAny (model X.prog X.w) X.A (f v u) (EP X pins σ Q) X.xe s
def UnR (X : Cx) (f : Value → Sem Value) (r : V → Hp → VK → Prop) : Prop :=
 ∀ (pins : List (Addr × Obj)) (s : Shared) (σ : St) (H : Hp) (x : V) (v : Value) (Q : VK), Inv X pins σ H s → RelV x v → r x H Q →
  wpAny (model X.prog X.w) X.A (f v) (EP X pins σ Q) X.xe s
def CallR (X : Cx) (f : Value) (r : List V → Hp → VK → Prop) : Prop :=
 ∀ (pins : List (Addr × Obj)) (s : Shared) (σ : St) (H : Hp) (xs : List V) (us : List Value) (Q : VK), Inv X pins σ H s → Vals xs us → r xs H Q →
  wpAny (model X.prog X.w) X.A (call f us) (EP X pins σ Q) X.xe s
def tOp (r : R2) (ta tb : TE) : TE := fun σ H Q => ta σ H fun x H1 => tb σ H1 fun y H2 => r x y H2 Q
def tUn (r : V → Hp → VK → Prop) (ta : TE) : TE := fun σ H Q => ta σ H fun x H1 => r x H1 Q
def rI (C : Int → Int → Prop) (g : Int → Int → V) : R2 := fun x y H Q => ∃ i j, x = .int i ∧ y = .int j ∧ C i j ∧ Q (g i j) H
def rI0 (g : Int → Int → V) : R2 := fun x y H Q => ∃ i j, x = .int i ∧ y = .int j ∧ Q (g i j) H
def rU (g : Int → V) : V → Hp → VK → Prop := fun x H Q => ∃ i, x = .int i ∧ Q (g i) H
section
variable {X : Cx} {a b c : Expr} {ta tb tc : TE} {pos : Pos}
theorem binT (ha : PE X a ta) (hb : PE X b tb) {pins : List (Addr × Obj)} {s : Shared} {σ : St} {H : Hp} {R : V → V → Hp → Prop} (I : Inv X pins σ H s)
  (h : ta σ H fun x H1 => tb σ H1 fun y H2 => R x y H2) {Q : Value → Shared → Prop} {f : Value → Value → Sem Value}
  (hf : ∀ v u s2 x y H2, Inv X pins σ H2 s2 → RelV x v → RelV y u → R x y H2 → wpAny (model X.prog X.w) X.A (f v u) Q X.xe s2) :
  wpAny (model X.prog X.w) X.A (eval a X.env) (fun v s₁ => wpAny (model X.prog X.w) X.A (eval b X.env) (fun u s₂ => wpAny (model X.prog X.w) X.A (f v u) Q X.xe s₂) X.xe s₁) X.xe s := by
 refine thn (ha pins s σ H _ I h) fun v s1 ⟨x, H1, I1, r1, q1⟩ => ?_
 refine thn (hb pins s1 σ H1 _ I1 q1) fun u s2 ⟨y, H2, I2, r2, q2⟩ => ?_
 exact hf v u s2 x y H2 I2 r1 r2 q2
theorem pe_op {op : Operator} {r : R2} (ho : OpR X (binaryOp op) r) (ha : PE X a ta) (hb : PE X b tb) : PE X (.BinOp a op b pos) (tOp r ta tb) := by
 intro pins s σ H Q I h
 exact wpAny_BinOp (binT ha hb I h fun v u s2 x y H2 I2 rx ry q => ho pins s2 σ H2 x y v u Q I2 rx ry q)
theorem pe_un {op : UnaryOp} {r : V → Hp → VK → Prop} (ho : UnR X (unaryOp op) r) (ha : PE X a ta) : PE X (.UnaryOp op a pos) (tUn r ta) := by
 intro pins s σ H Q I h
 exact UnaryOp_ (thn (ha pins s σ H _ I h) fun v s1 ⟨x, H1, I1, r1, q1⟩ => ho pins s1 σ H1 x v Q I1 r1 q1)
theorem opI {f : Value → Value → Sem Value} {C : Int → Int → Prop} {g : Int → Int → Int}
  (rule : ∀ (i j : Int) (t u : Tok) (s : Shared) (Q : Value → Shared → Prop) (E : Value → Shared → Prop), C i j → Q (.int (g i j) s.toks) { s with toks := s.toks + 1 } → wpAny (model X.prog X.w) X.A (f (.int i t) (.int j u)) Q E s) :
  OpR X f (rI C fun i j => .int (g i j)) := by
 intro pins s σ H x y v u Q I rx ry h
 obtain ⟨i, j, rfl, rfl, hc, q⟩ := h
 obtain ⟨t, rfl⟩ := rx
 obtain ⟨t', rfl⟩ := ry
 exact rule i j t t' s _ _ hc ⟨.int (g i j), H, I.tok _, ⟨_, rfl⟩, q⟩
theorem opI0 {f : Value → Value → Sem Value} {g : Int → Int → Int}
  (rule : ∀ (i j : Int) (t u : Tok) (s : Shared) (Q : Value → Shared → Prop) (E : Value → Shared → Prop), Q (.int (g i j) s.toks) { s with toks := s.toks + 1 } → wpAny (model X.prog X.w) X.A (f (.int i t) (.int j u)) Q E s) :
  OpR X f (rI0 fun i j => .int (g i j)) := by
 intro pins s σ H x y v u Q I rx ry h
 obtain ⟨i, j, rfl, rfl, q⟩ := h
 obtain ⟨t, rfl⟩ := rx
 obtain ⟨t', rfl⟩ := ry
 exact rule i j t t' s _ _ ⟨.int (g i j), H, I.tok _, ⟨_, rfl⟩, q⟩
theorem opB0 {f : Value → Value → Sem Value} {g : Int → Int → Bool}
  (rule : ∀ (i j : Int) (t u : Tok) (s : Shared) (Q : Value → Shared → Prop) (E : Value → Shared → Prop), Q (.bool (g i j)) s → wpAny (model X.prog X.w) X.A (f (.int i t) (.int j u)) Q E s) :
  OpR X f (rI0 fun i j => .bl (g i j)) := by
 intro pins s σ H x y v u Q I rx ry h
 obtain ⟨i, j, rfl, rfl, q⟩ := h
 obtain ⟨t, rfl⟩ := rx
 obtain ⟨t', rfl⟩ := ry
 exact rule i j t t' s _ _ ⟨.bl (g i j), H, I, rfl, q⟩
def CPow (i j : Int) : Prop := 0 ≤ j ∧ j ≤ 1000000 ∧ i.natAbs < 2 ^ 64
def CMul (i j : Int) : Prop := (-(2 ^ 64) < i ∧ i < 2 ^ 64) ∨ (-(2 ^ 64) < j ∧ j < 2 ^ 64)
theorem CMul.ok {i j : Int} (h : CMul i j) : IntMulOk i j := by
 rcases h with ⟨h1, h2⟩ | ⟨h1, h2⟩
 ·exact .of_left (intBits_le_64 h1 h2)
 ·exact .of_right (intBits_le_64 h1 h2)
theorem aN_ : OpR X (binaryOp .Add) (rI0 fun i j => .int (i + j)) := opI0 fun _ _ _ _ _ _ _ q => add_int q
theorem kS_ : OpR X (binaryOp .Sub) (rI0 fun i j => .int (i - j)) := opI0 fun _ _ _ _ _ _ _ q => sub_int q
theorem jJ_ : OpR X (binaryOp .Mult) (rI CMul fun i j => .int (i * j)) := opI fun _ _ _ _ _ _ _ hc q => mul_int q hc.ok
theorem aG_ : OpR X (binaryOp .Mod) (rI (fun _ j => 0 < j) fun i j => .int (i % j)) := opI fun i j _ _ _ _ _ hc q => by
 have h1 : (0 : Int) < j := hc
 exact mod_int' (by omega) (by rw [Int.fmod_eq_emod_of_nonneg i (by omega)]; exact q)
theorem mz_ : OpR X (binaryOp .Pow) (rI CPow fun i j => .int (i ^ j.toNat)) := opI fun _ _ _ _ _ _ _ hc q => pow_int_small hc.1 hc.2.1 hc.2.2 q
theorem unI {f : Value → Sem Value} {g : Int → Int}
  (rule : ∀ (i : Int) (t : Tok) (s : Shared) (Q : Value → Shared → Prop) (E : Value → Shared → Prop), Q (.int (g i) s.toks) { s with toks := s.toks + 1 } → wpAny (model X.prog X.w) X.A (f (.int i t)) Q E s) :
  UnR X f (rU fun i => .int (g i)) := by
 intro pins s σ H x v Q I rx h
 obtain ⟨i, rfl, q⟩ := h
 obtain ⟨t, rfl⟩ := rx
 exact rule i t s _ _ ⟨.int (g i), H, I.tok _, ⟨_, rfl⟩, q⟩
theorem nT_ : UnR X (unaryOp .USub) (rU fun i => .int (-i)) := unI fun _ _ _ _ _ q => neg_int q
end
def scal : V → V → Bool
 | .non, .non => true | .non, .int _ => true | .int _, .non => true | .non, .bl _ => true | .bl _, .non => true | .non, .str _ => true | .str _, .non => true
 | .int _, .int _ => true | .bl _, .bl _ => true | .str _, .str _ => true | .byt _, .byt _ => true
 | .int _, .str _ => true | .str _, .int _ => true | .bl _, .str _ => true | .str _, .bl _ => true
 | _, _ => false
def rEq : R2 := fun x y H Q => scal x y = true ∧ Q (.bl (decide (x = y))) H
def rNe : R2 := fun x y H Q => scal x y = true ∧ Q (.bl (!decide (x = y))) H
theorem kT_ {i j : Int} : decide (V.int i = V.int j) = (i == j) := by
 rw [Bool.eq_iff_iff]
 simp
theorem mA_ {i j : Bool} : decide (V.bl i = V.bl j) = (i == j) := by
 rw [Bool.eq_iff_iff]
 simp
theorem kU_ {i j : Str} : decide (V.str i = V.str j) = (i == j) := by
 rw [Bool.eq_iff_iff]
 simp
theorem kV_ {i j : Array UInt8} : decide (V.byt i = V.byt j) = (i.toList == j.toList) := by
 rw [Bool.eq_iff_iff]
 cases i
 cases j
 simp
section
variable {X : Cx} {a b c : Expr} {ta tb tc : TE} {pos : Pos}
theorem aU_ {pins : List (Addr × Obj)} {σ : St} {H : Hp} {s : Shared} {Q : VK} {k k' : Bool} (I : Inv X pins σ H s) (q : Q (.bl k) H) (e : k = k') : EP X pins σ Q (.bool k') s := by
 subst e
 exact ⟨.bl k, H, I, rfl, q⟩
theorem op_eq : OpR X (compareOp .Eq) rEq := by
 intro pins s σ H x y v u Q I rx ry h
 obtain ⟨hs, q⟩ := h
 cases x with
 | non =>
  cases rx
  cases y with
  | non => cases ry; exact PySem.EqNone.eq_none_none (aU_ I q (by simp))
  | bl j => cases ry; exact PySem.EqNone.eq_none_bool (aU_ I q (by simp))
  | int j => obtain ⟨t', rfl⟩ := ry; exact PySem.EqNone.eq_none_int (aU_ I q (by simp))
  | str j => obtain ⟨t', rfl⟩ := ry; exact PySem.EqNone.eq_none_str (aU_ I q (by simp))
  | _ => exact absurd (show false = true from hs) Bool.false_ne_true
 | bl i =>
  cases rx
  cases y with
  | non => cases ry; exact PySem.EqNone.eq_bool_none (aU_ I q (by simp))
  | bl j => cases ry; exact eq_bool (aU_ I q mA_)
  | str j => obtain ⟨t', rfl⟩ := ry; exact PySem.EqMixed.eq_bool_str (aU_ I q (by simp))
  | _ => exact absurd (show false = true from hs) Bool.false_ne_true
 | int i =>
  obtain ⟨t, rfl⟩ := rx
  cases y with
  | non => cases ry; exact PySem.EqNone.eq_int_none (aU_ I q (by simp))
  | int j => obtain ⟨t', rfl⟩ := ry; exact eq_int (aU_ I q kT_)
  | str j => obtain ⟨t', rfl⟩ := ry; exact PySem.EqMixed.eq_int_str (aU_ I q (by simp))
  | _ => exact absurd (show false = true from hs) Bool.false_ne_true
 | str i =>
  obtain ⟨t, rfl⟩ := rx
  cases y with
  | non => cases ry; exact PySem.EqNone.eq_str_none (aU_ I q (by simp))
  | bl j => cases ry; exact PySem.EqMixed.eq_str_bool (aU_ I q (by simp))
  | int j => obtain ⟨t', rfl⟩ := ry; exact PySem.EqMixed.eq_str_int (aU_ I q (by simp))
  | str j => obtain ⟨t', rfl⟩ := ry; exact eq_str (aU_ I q kU_)
  | _ => exact absurd (show false = true from hs) Bool.false_ne_true
 | byt i =>
  obtain ⟨t, rfl⟩ := rx
  cases y with
  | byt j => obtain ⟨t', rfl⟩ := ry; exact PySem.W.eq_bytes (aU_ I q kV_)
  | _ => exact absurd (show false = true from hs) Bool.false_ne_true
 | _ => cases y <;> exact absurd (show false = true from hs) Bool.false_ne_true
theorem op_ne : OpR X (compareOp .NotEq) rNe := by
 intro pins s σ H x y v u Q I rx ry h
 obtain ⟨hs, q⟩ := h
 cases x with
 | non =>
  cases rx
  cases y with
  | non => cases ry; exact PySem.EqNone.ne_none_none (aU_ I q (by simp))
  | bl j => cases ry; exact PySem.EqNone.ne_none_bool (aU_ I q (by simp))
  | int j => obtain ⟨t', rfl⟩ := ry; exact PySem.EqNone.ne_none_int (aU_ I q (by simp))
  | str j => obtain ⟨t', rfl⟩ := ry; exact PySem.EqNone.ne_none_str (aU_ I q (by simp))
  | _ => exact absurd (show false = true from hs) Bool.false_ne_true
 | bl i =>
  cases rx
  cases y with
  | non => cases ry; exact PySem.EqNone.ne_bool_none (aU_ I q (by simp))
  | bl j => cases ry; exact ne_bool (aU_ I q (congrArg not mA_))
  | str j => obtain ⟨t', rfl⟩ := ry; exact PySem.EqMixed.ne_bool_str (aU_ I q (by simp))
  | _ => exact absurd (show false = true from hs) Bool.false_ne_true
 | int i =>
  obtain ⟨t, rfl⟩ := rx
  cases y with
  | non => cases ry; exact PySem.EqNone.ne_int_none (aU_ I q (by simp))
  | int j => obtain ⟨t', rfl⟩ := ry; exact ne_int (aU_ I q (congrArg not kT_))
  | str j => obtain ⟨t', rfl⟩ := ry; exact PySem.EqMixed.ne_int_str (aU_ I q (by simp))
  | _ => exact absurd (show false = true from hs) Bool.false_ne_true
 | str i =>
  obtain ⟨t, rfl⟩ := rx
  cases y with
  | non => cases ry; exact PySem.EqNone.ne_str_none (aU_ I q (by simp))
  | bl j => cases ry; exact PySem.EqMixed.ne_str_bool (aU_ I q (by simp))
  | int j => obtain ⟨t', rfl⟩ := ry; exact PySem.EqMixed.ne_str_int (aU_ I q (by simp))
  | str j => obtain ⟨t', rfl⟩ := ry; exact ne_str (aU_ I q (congrArg not kU_))
  | _ => exact absurd (show false = true from hs) Bool.false_ne_true
 | byt i =>
  obtain ⟨t, rfl⟩ := rx
  cases y with
  | byt j => obtain ⟨t', rfl⟩ := ry; exact PySem.W.ne_bytes (aU_ I q (congrArg not kV_))
  | _ => exact absurd (show false = true from hs) Bool.false_ne_true
 | _ => cases y <;> exact absurd (show false = true from hs) Bool.false_ne_true
theorem op_lt : OpR X (compareOp .Lt) (rI0 fun i j => .bl (decide (i < j))) := opB0 fun _ _ _ _ _ _ _ q => lt_int q
theorem op_gt : OpR X (compareOp .Gt) (rI0 fun i j => .bl (decide (j < i))) := opB0 fun _ _ _ _ _ _ _ q => gt_int q
theorem op_ge : OpR X (compareOp .GtE) (rI0 fun i j => .bl (decide (j ≤ i))) := opB0 fun _ _ _ _ _ _ _ q => ge_int q
theorem nomark (b : Expr) {op : CmpOp} (h : op ≠ .In := by decide) (h2 : op ≠ .NotIn := by decide) : behindInMarks op b = false := by
 have e1 : (op == CmpOp.In) = false := by cases op <;> first | rfl | exact absurd rfl h
 have e2 : (op == CmpOp.NotIn) = false := by cases op <;> first | rfl | exact absurd rfl h2
 cases b <;> simp [behindInMarks, e1, e2]
theorem e4_ {op : CmpOp} {r : R2} (ho : OpR X (compareOp op) r) (ha : PE X a ta) (hb : PE X b tb) (hm : behindInMarks op b = false) : PE X (.Compare a [op] [b] pos) (tOp r ta tb) := by
 intro pins s σ H Q I h
 exact wpAny_Compare1 (binT ha hb I h fun v u s2 x y H2 I2 rx ry q => ho pins s2 σ H2 x y v u Q I2 rx ry q) hm
def tTest (t : TE) : TT := fun σ H Q => t σ H fun x H' => ∃ k, x = .bl k ∧ Q k H'
theorem az_ {op : CmpOp} {r : R2} (ho : OpR X (compareOp op) r) (ha : PE X a ta) (hb : PE X b tb) (hm : behindInMarks op b = false) : PT X (.Compare a [op] [b] pos) (tTest (tOp r ta tb)) := by
 intro pins s σ H Q I h
 refine wpAny_isTrue_Compare1 (thn (ha pins s σ H _ I h) fun v s1 ⟨x, H1, I1, r1, q1⟩ => thn (hb pins s1 σ H1 _ I1 q1) fun u s2 ⟨y, H2, I2, r2, q2⟩ =>
  thn (ho pins s2 σ H2 x y v u _ I2 r1 r2 q2) fun c s3 ⟨z, H3, I3, r3, k, e, q3⟩ => ?_) hm
 subst e
 cases r3
 exact wpAny_truthy_bool ⟨H3, I3, q3⟩
theorem line63 : (sizeLine : Nat) < 2 ^ 63 := by rw [sizeLine_eq]; decide
theorem dQ_ : OpR X (binaryOp .Add) (fun x y H Q => ∃ i j, x = .str i ∧ y = .str j ∧ i.length + j.length ≤ sizeLine ∧ Q (.str (i ++ j)) H) := by
 intro pins s σ H x y v u Q I rx ry h
 obtain ⟨i, j, rfl, rfl, hz, q⟩ := h
 obtain ⟨t, rfl⟩ := rx
 obtain ⟨t', rfl⟩ := ry
 exact add_str (fun t' tk => ⟨.str (i ++ j), H, I.tok _, ⟨_, rfl⟩, q⟩) hz
theorem vals1 {x : V} {us : List Value} (r : Vals [x] us) : ∃ u, us = [u] ∧ RelV x u := by
 cases r with
 | cons r1 r2 => cases r2; exact ⟨_, rfl, r1⟩
theorem vals2 {x y : V} {us : List Value} (r : Vals [x, y] us) : ∃ u w', us = [u, w'] ∧ RelV x u ∧ RelV y w' := by
 cases r with
 | cons r1 r2 =>
  cases r2 with
  | cons r3 r4 => cases r4; exact ⟨_, _, rfl, r1, r3⟩
theorem hm_ : CallR X (.builtin "abs") (fun xs H Q => ∃ i, xs = [.int i] ∧ Q (.int (if i < 0 then -i else i)) H) := by
 intro pins s σ H xs us Q I r h
 obtain ⟨i, rfl, q⟩ := h
 obtain ⟨u, rfl, t, rfl⟩ := vals1 r
 exact call_abs_int fun u tk => ⟨.int (if i < 0 then -i else i), H, I.tok _, ⟨_, rfl⟩, q⟩
theorem kW_ (hc : X.calm = true) : CallR X (.builtin "max") (fun xs H Q => ∃ i j, xs = [.int i, .int j] ∧ Q (.int (if j > i then j else i)) H) := by
 intro pins s σ H xs us Q I r h
 obtain ⟨i, j, rfl, q⟩ := h
 obtain ⟨u, w', rfl, ⟨t, rfl⟩, ⟨t', rfl⟩⟩ := vals2 r
 refine max_two_ints (I.ok.hd hc) fun h' tk k => ⟨_, H, I.kept k, ?_, q⟩
 by_cases hj : j > i
 ·rw [if_pos hj, if_pos hj]; exact ⟨_, rfl⟩
 ·rw [if_neg hj, if_neg hj]; exact ⟨_, rfl⟩
theorem kX_ (hc : X.calm = true) : CallR X (.builtin "min") (fun xs H Q => ∃ i j, xs = [.int i, .int j] ∧ Q (.int (if j < i then j else i)) H) := by
 intro pins s σ H xs us Q I r h
 obtain ⟨i, j, rfl, q⟩ := h
 obtain ⟨u, w', rfl, ⟨t, rfl⟩, ⟨t', rfl⟩⟩ := vals2 r
 refine min_two_ints (I.ok.hd hc) fun h' tk k => ⟨_, H, I.kept k, ?_, q⟩
 by_cases hj : j < i
 ·rw [if_pos hj, if_pos hj]; exact ⟨_, rfl⟩
 ·rw [if_neg hj, if_neg hj]; exact ⟨_, rfl⟩
theorem h2_ : CallR X (.type "int") (fun xs H Q => (∃ i, xs = [.int i] ∧ Q (.int i) H) ∨ ∃ k, xs = [.bl k] ∧ Q (.int (if k then 1 else 0)) H) := by
 intro pins s σ H xs us Q I r h
 rcases h with ⟨i, rfl, q⟩ | ⟨k, rfl, q⟩
 ·obtain ⟨u, rfl, t, rfl⟩ := vals1 r
  exact call_int_int ⟨.int i, H, I, ⟨_, rfl⟩, q⟩
 ·obtain ⟨u, rfl, r1⟩ := vals1 r
  cases r1
  exact call_int_bool ⟨.int (if k then 1 else 0), H, I.tok _, ⟨_, rfl⟩, q⟩
end
end L2
namespace L2
open PySem PySem.Spec PyProof.Rows
structure ObjM (h : Heap) (x dx C : Addr) (mA : Str → Option Value) : Prop where
 obj : h.get? x = some (PySem.W.instObj C dx)
 ns : h.Ns1 dx mA
 ne : dx ≠ x
section
variable {prog : Program} {w : World} {A : Around} {E : Value → Shared → Prop} {s : Shared} {K : PySem.W.Frag} {x dx C f : Addr} {mA : Str → Option Value} {name : Str} {v : Value}
end
def putF (f : Str) (v : V) : List (Str × V) → List (Str × V)
 | [] => [(f, v)]
 | (g, x) :: r => if g = f then (g, v) :: r else (g, x) :: putF f v r
theorem RelO.some_of {v : V} {o : Option Value} (r : RelO (some v) o) : ∃ u, o = some u ∧ RelV v u := by
 cases o with
 | none => exact (show False from r).elim
 | some u => exact ⟨u, rfl, r⟩
section
variable {P : Program} {w : World} {H H' : Hp} {h h' : Heap} {a C dx : Addr} {fs fs' : List (Str × V)}
end
structure Cls (K : PySem.W.Frag) (C : Addr) : Prop where
 pg : PySem.W.plainGet K C Str.empty = true
 hd : PySem.W.hasDictIn K C = true
 po : PySem.W.plainOver K C = true
 sa : PySem.W.findIn K (.ref C) "__setattr__" = some (some (.builtin "object.__setattr__"))
theorem Cls.get {K : PySem.W.Frag} {C : Addr} (c : Cls K C) (f : Str) : PySem.W.plainGet K C f = true := c.pg
structure Con (K : PySem.W.Frag) (C : Addr) (f : Str) (v : V) (u : Value) : Prop where
 at_ : PySem.W.findIn K (.ref C) f = some (some u)
 rel : RelV v u
 get : PySem.W.specialIn K u "__get__" = some none
 cp : PySem.W.copiedNames.contains f = false
structure Meth (K : PySem.W.Frag) (C : Addr) (m : Str) (f : Addr) : Prop where
 at_ : PySem.W.findIn K (.ref C) m = some (some (.ref f))
 fn : PySem.W.isFn K (.ref f) = true
 kp : PySem.W.keepIn K (.ref f) = true
section
variable {X : Cx} {pins : List (Addr × Obj)} {σ : St} {H : Hp} {s : Shared} {a C dx : Addr} {fs : List (Str × V)} {f : Str} {v : V} {A : Around} {E : Value → Shared → Prop}
end
section
variable {X : Cx} {o e value : Expr} {f : Str} {pos pos' tpos : Pos} {ta tv : TE}
end
section
variable {X : Cx} {pins : List (Addr × Obj)} {σ : St} {H : Hp} {s : Shared} {A : Around} {E : Value → Shared → Prop} {Q : Value → Shared → Prop} {c : Value} {b : Bool}
inductive TyOf (K : PySem.W.Frag) (H : Hp) : V → Value → Prop where
 | non : TyOf K H .non (.type "NoneType")
 | bl (x : Bool) : TyOf K H (.bl x) (.type "bool")
 | int (i : Int) : TyOf K H (.int i) (.type "int")
 | str (x : Str) : TyOf K H (.str x) (.type "str")
 | flt (x : UInt64) : TyOf K H (.flt x) (.type "float")
 | lst {a : Addr} {xs : List V} (e : H a = some (.lst xs)) : TyOf K H (.ref a) (.type "list")
 | frz {a : Addr} {o : Obj} {xs : List V} (e : H a = some (.frz o (.lst xs))) : TyOf K H (.ref a) (.type "list")
 | tup {a : Addr} {xs : List V} (e : H a = some (.tup xs)) : TyOf K H (.ref a) (.type "tuple")
 | dK {a : Addr} {kvs : List (Key × V)} (e : H a = some (.dK kvs)) : TyOf K H (.ref a) (.type "dict")
 | dT {a : Addr} {kvs : List (List Key × V)} (e : H a = some (.dT kvs)) : TyOf K H (.ref a) (.type "dict")
 | ins {a C dx : Addr} {fs : List (Str × V)} (e : H a = some (.ins C dx fs)) (cl : Cls K C) (ha : PySem.W.findIn K (.ref C) "__class__" = some (some (.builtin "object.__class__")))
   (hn : PySem.W.specialIn K (.builtin "object.__class__") "__get__" = some (some (.builtin "getset_descriptor.__get__"))) (htk : PySem.W.takesIn K (.builtin "object.__class__") = some true)
   (hm : PySem.W.mroIn K C (.type "object") = some true) : TyOf K H (.ref a) (.ref C)
end
end L2
namespace L2
open PySem PySem.Spec PyProof.Rows
structure Room (k : Nat) (A : Around) : Prop where
 hd : A.handled = none
 dp : A.depth + 3 * k + 5 < recursionLimit
 un : A.units + 16 * k + 200 < cLine
theorem Room.mono {j k : Nat} {A : Around} (r : Room k A) (h : j ≤ k) : Room j A := ⟨r.hd, by have := r.dp; omega, by have := r.un; omega⟩
theorem Room.deeper {k : Nat} {A : Around} (r : Room (k + 1) A) (env : Env) : Room k (A.deeper env) :=
 ⟨r.hd, by have := r.dp; show A.depth + 1 + 3 * k + 5 < _; omega, by have := r.un; show A.units + 3 + 16 * k + 200 < _; omega⟩
theorem Room.in1 {k : Nat} {A : Around} (r : Room (k + 1) A) : Room k A.in1 :=
 ⟨r.hd, by have := r.dp; show A.depth + 3 * k + 5 < _; omega, by have := r.un; show A.units + 1 + 16 * k + 200 < _; omega⟩
theorem Room.depth {k : Nat} {A : Around} (r : Room k A) : A.depth < recursionLimit := by have := r.dp; omega
theorem Room.units {k : Nat} {A : Around} (r : Room k A) : A.units + 64 < cLine := by have := r.un; omega
def tNil : TA := fun _ H Q => Q [] H
def tCons (ta : TE) (tr : TA) : TA := fun σ H Q => ta σ H fun x H1 => tr σ H1 fun xs H2 => Q (x :: xs) H2
section
variable {X : Cx} {e : Expr} {es : List Expr} {te : TE} {t : TA} {pos : Pos}
theorem aa_ : PA X [] tNil := fun _ _ _ _ H Q I h => Calls.spliced_nil ⟨[], H, I, .nil, h⟩
theorem mZ_ (ha : PE X e te) (hr : PA X es t) (hs : starEach (e :: es) X.env = (false, eval e X.env) :: starEach es X.env := by rfl) : PA X (e :: es) (tCons te t) := by
 intro pos pins s σ H Q I h
 rw [hs]
 show wpAny _ _ (spliced ((false, eval e X.env) :: backTo pos (starEach es X.env))) _ _ s
 refine Calls.spliced_cons (thn (ha pins s σ H _ I h) fun u s1 ⟨x, H1, I1, r1, q1⟩ => ?_)
 exact thn (hr pos pins s1 σ H1 _ I1 q1) fun us s2 ⟨xs, H2, I2, r2, q2⟩ => ⟨x :: xs, H2, I2, .cons r1 r2, q2⟩
def tTup (t : TA) : TE := fun σ H Q => t σ H fun xs H1 => xs.length ≤ sizeLine ∧ ∀ p, H1 p = none → Q (.ref p) (upd H1 p (.tup xs))
def tLst (t : TA) : TE := fun σ H Q => t σ H fun xs H1 => xs.length ≤ sizeLine ∧ ∀ p, H1 p = none → Q (.ref p) (upd H1 p (.lst xs))
theorem aH_ {x1} (h : PA X es t) : PE X (.Tuple es x1 pos) (tTup t) := by
 intro pins s σ H Q I hq
 refine wpAny_Tuple_spliced (thn (h pos pins s σ H _ I hq) fun us s1 ⟨xs, H1, I1, r, z, q⟩ => ⟨by rw [← r.length]; exact z, ?_⟩)
 have hf : H1 s1.heap.objs.size = none := I1.hok.fresh (Nat.le_refl _)
 refine ⟨.ref s1.heap.objs.size, upd H1 s1.heap.objs.size (.tup xs), I1.laid (t' := s1.toks) (fun b u e => Heap.get?_push_of_some _ e) (Nat.le_refl _) ?_, rfl, q _ hf⟩
 exact ⟨z, us, r, ⟨_, Heap.get?_push_size _ rfl, rfl, _, rfl⟩⟩
theorem cG_ (h : PA X es t) : PE X (.List es pos) (tLst t) := by
 intro pins s σ H Q I hq
 refine wpAny_List_spliced (thn (h pos pins s σ H _ I hq) fun us s1 ⟨xs, H1, I1, r, z, q⟩ => ⟨by rw [← r.length]; exact z, ?_⟩)
 have hf : H1 s1.heap.objs.size = none := I1.hok.fresh (Nat.le_refl _)
 refine ⟨.ref s1.heap.objs.size, upd H1 s1.heap.objs.size (.lst xs), I1.laid (t' := s1.toks) (fun b u e => Heap.get?_push_of_some _ e) (Nat.le_refl _) ?_, rfl, q _ hf⟩
 exact ⟨z, us, 0, r, Heap.get?_push_size _ rfl⟩
end
abbrev Sp := List V → Hp → VK → XK → Prop
abbrev CXT := List Env → Hp → Shared → XK → Value → Shared → Prop
structure Env0 (P : Program) (w : World) (K : PySem.W.Frag) (mg : Str → Option Value) (base : Heap) (A : Around) (outer : List Env) (s : Shared) (H : Hp) : Prop where
 frames : A.frames = some outer
 mod : Mod K mg base
 bs : ∀ b o, base.get? b = some o → s.heap.get? b = some o ∧ H b = none
 bsz : base.objs.size ≤ s.heap.objs.size
 funs : s.heap.FunFrames base outer
 frf : ∀ b ∈ frs outer, H b = none
 hok : HOk P w H s.heap
 bare : AllBare s.gens
def CE (outer : List Env) (P : Program) (w : World) (H : Hp) (s : Shared) (Q : VK) (u : Value) (s' : Shared) : Prop :=
 ∃ v H', s'.os = s.os ∧ AllBare s'.gens ∧ Un (frs outer) [] H H' s.heap s'.heap ∧ HOk P w H' s'.heap ∧ RelV v u ∧ Q v H'
def CR (CX : CXT) (outer : List Env) (P : Program) (w : World) (H : Hp) (s : Shared) (Q : VK) (E : XK) (r : Result) (s' : Shared) : Prop :=
 match r with
 | .ok (.ret u) => CE outer P w H s Q u s'
 | .ok _ => False
 | .error e => CX outer H s E e s'
structure FnOk (P : Program) (w : World) (K : PySem.W.Frag) (mg : Str → Option Value) (base : Heap) (CX : CXT) (k : Nat) (f : Addr) (fd : FuncData) (ps : List Str) (sp : Sp) : Prop where
 len : ∀ vs H Q E, sp vs H Q E → vs.length = ps.length
 run : ∀ (A : Around) (outer : List Env) (s : Shared) (H : Hp) (args : Args) (us : List Value) (vs : List V) (Q : VK) (E : XK), Room k A → Env0 P w K mg base A outer s H → BindsTo s fd args (ps.zip us) → Vals vs us → sp vs H Q E →
  codeAny (model P w) A (.call (.ref f) args) (CR CX outer P w H s Q E) s
theorem FnOk.mono {P : Program} {w : World} {K : PySem.W.Frag} {mg : Str → Option Value} {base : Heap} {CX : CXT} {j k : Nat} {f : Addr} {fd : FuncData} {ps : List Str} {sp : Sp} (F : FnOk P w K mg base CX j f fd ps sp) (h : j ≤ k) :
  FnOk P w K mg base CX k f fd ps sp := ⟨F.len, fun A outer s H args us vs Q E hr => F.run A outer s H args us vs Q E (hr.mono h)⟩
theorem FnOk.imp {P : Program} {w : World} {K : PySem.W.Frag} {mg : Str → Option Value} {base : Heap} {CX : CXT} {k : Nat} {f : Addr} {fd : FuncData} {ps : List Str} {sp sp' : Sp} (F : FnOk P w K mg base CX k f fd ps sp)
  (h : ∀ vs H Q E, sp' vs H Q E → sp vs H Q E) : FnOk P w K mg base CX k f fd ps sp' :=
 ⟨fun vs H Q E q => F.len vs H Q E (h _ _ _ _ q), fun A outer s H args us vs Q E hr he hb hv hs => F.run A outer s H args us vs Q E hr he hb hv (h _ _ _ _ hs)⟩
theorem Env0.in1 {P : Program} {w : World} {K : PySem.W.Frag} {mg : Str → Option Value} {base : Heap} {A : Around} {outer : List Env} {s : Shared} {H : Hp} (e : Env0 P w K mg base A outer s H) :
  Env0 P w K mg base A.in1 outer s H := ⟨e.frames, e.mod, e.bs, e.bsz, e.funs, e.frf, e.hok, e.bare⟩
section
variable {X : Cx} {pins : List (Addr × Obj)} {σ : St} {H : Hp} {s s' : Shared}
theorem Inv.env0 (I : Inv X pins σ H s) : Env0 X.prog X.w X.K X.mg X.base X.A X.stack s H :=
 ⟨I.ok.frames, I.ok.mod, I.bs, Nat.le_trans I.ok.bsz I.sz, I.stack, I.stkFree, I.hok, I.bare⟩
theorem Inv.after {Q : VK} {u : Value} (I : Inv X pins σ H s) (h : CE X.stack X.prog X.w H s Q u s') : EP X pins σ Q u s' := by
 obtain ⟨v, H', os, bare, un, hok, r, q⟩ := h
 obtain ⟨hh, g, d, t, os'⟩ := s'
 obtain rfl : os' = s.os := os
 exact ⟨v, H', I.call (h' := hh) (g' := g) (d' := d) (t' := t) (ch := []) un hok bare (fun b z => absurd z (by simp)), r, q⟩
end
def tCall (sp : Sp) (dvs : List V) (E : XK) (t : TA) : TE := fun σ H Q => t σ H fun vs H1 => sp (vs ++ dvs) H1 Q E
def Binds (K : PySem.W.Frag) (fd : FuncData) (ps : List Str) (ds : List Value) : Prop :=
 ∀ (s : Shared) (us : List Value), K.In s.heap → (us ++ ds).length = ps.length → BindsTo s fd ⟨us, []⟩ (ps.zip (us ++ ds))
theorem Binds.all {K : PySem.W.Frag} {fd : FuncData} {ps : List Str} (h : ∀ us : List Value, us.length = ps.length → bindArgs fd ⟨us, []⟩ = pure (ps.zip us)) : Binds K fd ps [] := fun s us _ hl => by
 rw [List.append_nil] at hl ⊢
 exact .of_eq (h us hl)
def Passes (CX : CXT) (X : Cx) (E : XK) : Prop := ∀ (pins : List (Addr × Obj)) (σ : St) (H : Hp) (s : Shared) (e : Value) (s' : Shared), Inv X pins σ H s → CX X.stack H s E e s' → X.xe e s'
section
variable {X : Cx} {CX : CXT} {k : Nat} {f C : Addr} {fd : FuncData} {ps : List Str} {sp : Sp} {dvs : List V} {ds : List Value} {E : XK} {x m : Str} {p pos apos : Pos} {e o : Expr} {es : List Expr} {ta : TE} {t : TA}
theorem nU_ {pins : List (Addr × Obj)} {σ : St} {H : Hp} {s : Shared} {Q : VK} {us : List Value} {vs : List V} (F : FnOk X.prog X.w X.K X.mg X.base CX k f fd ps sp) (hr : Room k X.A) (hb : Binds X.K fd ps ds) (hd : Vals dvs ds) (hx : Passes CX X E)
  (I : Inv X pins σ H s) (r : Vals vs us) (h : sp (vs ++ dvs) H Q E) : wpAny (model X.prog X.w) X.A (call (.ref f) us) (EP X pins σ Q) X.xe s := by
 have r2 : Vals (vs ++ dvs) (us ++ ds) := r.append hd
 have hl : (us ++ ds).length = ps.length := by rw [← r2.length]; exact F.len _ _ _ _ h
 refine wpAny_call (codeAny_mono (F.run X.A X.stack s H ⟨us, []⟩ (us ++ ds) (vs ++ dvs) Q E hr I.env0 (hb s us I.kIn hl) r2 h) fun r s' hq => ?_)
 cases r with
 | error e => exact hx pins σ H s e s' I hq
 | ok fl =>
  cases fl with
  | ret u => exact I.after hq
  | next => exact False.elim hq
  | brk => exact False.elim hq
  | cont => exact False.elim hq
theorem m0_ (F : FnOk X.prog X.w X.K X.mg X.base CX k f fd ps sp) (hr : Room k X.A) (hg : Gl X x) (hm : X.mg x = some (.ref f)) (hk : PySem.W.keepIn X.K (.ref f) = true) (hb : Binds X.K fd ps ds) (hd : Vals dvs ds) (hx : Passes CX X E)
  (ha : PA X (e :: es) t) (hdb : (x == ("__debug__" : Str)) = false := by decide) (he : starEach (e :: es) X.env = (false, eval e X.env) :: starEach es X.env := by rfl) (hpl : (backTo pos (starEach es X.env)).any (·.1) = false := by rfl) :
  PE X (.Call (.Name x p) (e :: es) [] pos) (tCall sp dvs E t) := by
 intro pins s σ H Q I h
 refine wpAny_Call_Name_kw (fX_ I hg hm ?_ hdb)
 refine PySem.W.callWith_K (h₀ := X.base) I.ok.mod.kin hk (thn (ha pos pins s σ H _ I h) fun us s1 ⟨vs, H1, I1, r, q⟩ => ⟨I1.kIn, ?_⟩) he hpl
 exact nU_ F hr hb hd hx I1 r q
structure Mk (K : PySem.W.Frag) (C f : Addr) : Prop where
 makes : PySem.W.makesIn K C = true
 init : PySem.W.findIn K (.ref C) "__init__" = some (some (.ref f))
 fn : PySem.W.isFn K (.ref f) = true
 kp : PySem.W.keepIn K (.ref C) = true
end
section
variable {X : Cx} {CX : CXT} {k : Nat} {f C : Addr} {fd : FuncData} {ps ks : List Str} {sp : Sp} {E : XK} {x m : Str} {p pos apos kpos : Pos} {e o : Expr} {es : List Expr} {kws : List Keyword} {te ta : TE} {t tk : TA} {nm : Option Str}
structure KBinds (K : PySem.W.Frag) (fd : FuncData) (ps ks : List Str) (g : List Value → List Value → List Value) (gV : List V → List V → List V) : Prop where
 to : ∀ (s : Shared) (us ws : List Value), K.In s.heap → (g us ws).length = ps.length → BindsTo s fd ⟨us, ks.zip ws⟩ (ps.zip (g us ws))
 rel : ∀ {vs : List V} {us : List Value} {zs : List V} {ws : List Value}, Vals vs us → Vals zs ws → Vals (gV vs zs) (g us ws)
variable {g : List Value → List Value → List Value} {gV : List V → List V → List V}
end
structure FnScope (N P : List Str) (sc : Scope) : Prop where
 kind : sc.kind = .function
 co : sc.isCoroutine = false
 gen : sc.isGenerator = false
 nd : N.Nodup
 pre : N.take P.length = P
 par : ∀ x ∈ P, sc.names.lookup x = some .local ∨ sc.names.lookup x = some .cell
 nofree : ∀ y ∈ sc.names, y.2 ≠ .free
theorem h3_ {kindOf : Str → Option NameKind} {x : Str} : ∀ {binds : List (Str × Value)} {m : Str → Option Value}, (∀ v, (x, v) ∉ binds) → bindL kindOf binds m x = m x
 | [], _, _ => rfl
 | (n, v) :: r, m, h => by
  unfold bindL
  rw [h3_ fun w hw => h w (List.mem_cons_of_mem _ hw)]
  split
  ·have : x ≠ n := by rintro rfl; exact h v List.mem_cons_self
   simp [this]
  ·rfl
theorem h4_ {kindOf : Str → Option NameKind} {x : Str} : ∀ {binds : List (Str × Value)} {m : Str → Option Value}, (∀ v, (x, v) ∉ binds) → bindC kindOf binds m x = m x
 | [], _, _ => rfl
 | (n, v) :: r, m, h => by
  unfold bindC
  rw [h4_ fun w hw => h w (List.mem_cons_of_mem _ hw)]
  split
  ·rfl
  ·have : x ≠ n := by rintro rfl; exact h v List.mem_cons_self
   simp [this]
theorem h5_ {kindOf : Str → Option NameKind} {x : Str} {v : Value} : ∀ {P : List Str} {vs : List Value} {i : Nat} {m : Str → Option Value}, P.Nodup → P[i]? = some x → vs[i]? = some v → kindOf x = some .local →
  bindL kindOf (P.zip vs) m x = some v
 | [], _, _, _, _, h, _, _ => by simp at h
 | _ :: _, [], _, _, _, _, h, _ => by simp at h
 | p :: P, w :: vs, 0, m, nd, h1, h2, hk => by
  simp at h1 h2; subst h1; subst h2
  show bindL kindOf ((p, w) :: P.zip vs) m p = _
  unfold bindL
  rw [h3_ fun v hv => (List.nodup_cons.mp nd).1 (List.of_mem_zip hv).1, if_pos hk]
  simp
 | p :: P, w :: vs, i + 1, m, nd, h1, h2, hk => by
  show bindL kindOf ((p, w) :: P.zip vs) m x = _
  unfold bindL
  exact h5_ (i := i) (List.nodup_cons.mp nd).2 (by simpa using h1) (by simpa using h2) hk
theorem h6_ {kindOf : Str → Option NameKind} {x : Str} {v : Value} : ∀ {P : List Str} {vs : List Value} {i : Nat} {m : Str → Option Value}, P.Nodup → P[i]? = some x → vs[i]? = some v → kindOf x ≠ some .local →
  bindC kindOf (P.zip vs) m x = some v
 | [], _, _, _, _, h, _, _ => by simp at h
 | _ :: _, [], _, _, _, _, h, _ => by simp at h
 | p :: P, w :: vs, 0, m, nd, h1, h2, hk => by
  simp at h1 h2; subst h1; subst h2
  show bindC kindOf ((p, w) :: P.zip vs) m p = _
  unfold bindC
  rw [h4_ fun v hv => (List.nodup_cons.mp nd).1 (List.of_mem_zip hv).1, if_neg hk]
  simp
 | p :: P, w :: vs, i + 1, m, nd, h1, h2, hk => by
  show bindC kindOf ((p, w) :: P.zip vs) m x = _
  unfold bindC
  exact h6_ (i := i) (List.nodup_cons.mp nd).2 (by simpa using h1) (by simpa using h2) hk
def start (N : List Str) (vs : List V) : St := vs.map some ++ List.replicate (N.length - vs.length) none
def cxOf (CX : CXT) (P : Program) (w : World) (K : PySem.W.Frag) (mg : Str → Option Value) (base : Heap) (N : List Str) (qual : Str) (scope : Scope) (f : Addr) (cd : Value) (A : Around) (outer : List Env) (s : Shared) (H : Hp) (E : XK) : Cx where
 prog := P
 w := w
 K := K
 mg := mg
 base := base
 A := A.deeper (envOfC qual scope s.heap.objs.size f cd)
 N := N
 s₀ := s
 H₀ := H
 env := envOfC qual scope s.heap.objs.size f cd
 outer := outer
 stack := envOfC qual scope s.heap.objs.size f cd :: outer
 ex := []
 calm := true
 fn := fun _ => true
 pn := []
 xe := fun e s' => wpAny (model P w) (A.deeper (envOfC qual scope s.heap.objs.size f cd)) (leaving (envOfC qual scope s.heap.objs.size f cd) e) (fun _ s'' => CX outer H s E e s'') (fun e' s'' => CX outer H s E e' s'') s'
theorem jK_ {sc : Scope} {n : Nat} {x : Str} (h : sc.names.lookup x = some .cell) : ∃ c, (cellsFrom n sc.names []).lookup x = some c := by
 have q := PySem.W.cellsFrom_some sc.names n [] (.inl h)
 exact Option.isSome_iff_exists.mp q
theorem kY_ {CX : CXT} {P : Program} {w : World} {K : PySem.W.Frag} {mg : Str → Option Value} {base : Heap} {N ps : List Str} {qual : Str} {scope : Scope} {f : Addr} {cd : Value} {A : Around} {outer : List Env} {s s1 : Shared} {H : Hp} {E : XK} {us : List Value} {vs : List V}
  (S : FnScope N ps scope) (hd : A.handled = none) (e0 : Env0 P w K mg base A outer s H) (hl : vs.length = ps.length) (r : Vals vs us)
  (x : InCallC s s.heap.objs.size (bindL (envOfC qual scope s.heap.objs.size f cd).kindOf (ps.zip us) fun _ => none) (cellsFrom (s.heap.objs.size + 1) scope.names []) (bindC (envOfC qual scope s.heap.objs.size f cd).kindOf (ps.zip us) fun _ => none) s1) :
  Inv (cxOf CX P w K mg base N qual scope f cd A outer s H E) [] (start N vs) H s1 := by
 have hpl : ps.length ≤ N.length := by have := congrArg List.length S.pre; rw [List.length_take] at this; omega
 obtain ⟨h1, tk, rfl, hk⟩ := x.done
 have noA : ∀ b : Addr, b ∉ (cxOf CX P w K mg base N qual scope f cd A outer s H E).ex := fun b z => absurd (show b ∈ ([] : List Addr) from z) (by simp)
 refine ⟨⟨e0.mod, S.kind, rfl, rfl, Nat.le_refl _, fun y z c h1 h2 => ?_, fun y hy => ?_, fun y c _ h => ?_, fun _ => hd, Around.frames_deeper e0.frames, .inr ⟨rfl, rfl⟩, fun b z => absurd z (noA b), e0.bs, e0.bsz, fun b _ _ => noA b, fun b z => absurd z (noA b), e0.funs, e0.frf⟩,
  rfl, e0.bare, Un.kept hk, ⟨_, x.toInCall.ns, fun i y v h1 h2 h3 => ?_⟩, fun y c h => ⟨_, x.cell y c h⟩, e0.hok.fresh (Nat.le_refl _), fun y c h => ?_, fun p hp => absurd (show p ∈ ([] : List (Addr × Obj)) from hp) (by simp), e0.hok.kept hk, ?_⟩
 ·exact name_of_addr x.apart (PySem.mem_of_lookup h1) (PySem.mem_of_lookup h2)
 ·have hy : scope.names.lookup y = some .cell ∨ scope.names.lookup y = some .free := hy
  rcases hy with hy | hy
  ·exact jK_ hy
  ·exact absurd rfl (S.nofree _ (PySem.mem_of_lookup hy))
 ·exact Nat.le_of_lt (x.above y c (PySem.mem_of_lookup h))
 ·have hi : i < vs.length := by
   unfold start at h2
   by_cases hi : i < vs.length
   ·exact hi
   ·rw [List.getElem?_append_right (by simpa using hi)] at h2
    rw [List.getElem?_replicate] at h2
    split at h2 <;> cases h2
  have ha : vs[i]? = some v := by
   unfold start at h2
   rw [List.getElem?_append_left (by simpa using hi), List.getElem?_map] at h2
   cases e : vs[i]? with
   | none => rw [e] at h2; cases h2
   | some a => rw [e] at h2; cases h2; rfl
  obtain ⟨u, hu, rv⟩ := r.get ha
  have hp : ps[i]? = some y := by
   rw [← S.pre, List.getElem?_take_of_lt (by omega)]; exact h1
  have ndP : ps.Nodup := by rw [← S.pre]; exact S.nd.sublist (List.take_sublist _ _)
  refine ⟨u, rv, ?_⟩
  rcases S.par y (List.mem_of_getElem? hp) with k | k
  ·exact .inl ⟨k, h5_ ndP hp hu k⟩
  ·obtain ⟨c, e⟩ := jK_ (n := s.heap.objs.size + 1) k
   refine .inr ⟨.inl k, c, e, ?_⟩
   have q := x.cell y c e
   rw [h6_ ndP hp hu (by show scope.names.lookup y ≠ _; rw [k]; decide)] at q
   exact q
 ·exact e0.hok.fresh (Nat.le_of_lt (x.above y c (PySem.mem_of_lookup h)))
 ·unfold start
  show _ = N.length
  rw [List.length_append, List.length_map, List.length_replicate]
  omega
theorem fn_of {CX : CXT} {P : Program} {w : World} {K : PySem.W.Frag} {mg : Str → Option Value} {base : Heap} {k : Nat} {f : Addr} {name qual : Str} {params : Arguments} {body : List Stmt} {scope : Scope} {dV kV doc pm cdv ct oc : Value} {an od : Option Addr}
  {osl : Array (Option Value)} {N ps : List Str} {sp : Sp} (lk : K.lookup f = some ⟨oc, od, .func (PySem.W.fnOf name qual params body scope dV kV doc pm an cdv ct), osl⟩) (hcd : PySem.W.codeIn K cdv qual = true) (S : FnScope N ps scope)
  (len : ∀ vs H Q E, sp vs H Q E → vs.length = ps.length)
  (hbody : ∀ (A : Around) (outer : List Env) (s : Shared) (H : Hp) (vs : List V) (Q : VK) (E : XK), Room k (A.deeper (envOfC qual scope s.heap.objs.size f cdv)) → sp vs H Q E →
   ∃ t, PSs (cxOf CX P w K mg base N qual scope f cdv A outer s H E) body t ∧ t { nx := fun _ H' => Q .non H', rt := Q } (start N vs) H) :
  FnOk P w K mg base CX (k + 1) f (PySem.W.fnOf name qual params body scope dV kV doc pm an cdv ct) ps sp := by
 refine ⟨len, fun A outer s H args us vs Q E hr e0 hb r hsp => ?_⟩
 have hl := len _ _ _ _ hsp
 have KX : K.In s.heap := e0.mod.kin.keeps fun b o e => (e0.bs b o e).1
 have lim : s.heap.NoLimit := e0.mod.nolimit.keeps fun b o e => (e0.bs b o e).1
 have hkind : ∀ y ∈ ps.zip us, scope.names.lookup y.1 = some .local ∨ (scope.names.lookup y.1 = some .cell ∧ ((cellsFrom (s.heap.objs.size + 1) scope.names []).lookup y.1).isSome = true) := fun ⟨n, v⟩ hy => by
  rcases S.par n (List.of_mem_zip hy).1 with q | q
  ·exact .inl q
  ·exact .inr ⟨q, PySem.W.cellsFrom_some _ _ _ (.inl q)⟩
 refine codeAny_call_function hr.depth (KX _ _ lk) rfl S.co S.gen rfl (PySem.W.codeRec_of KX hcd) (hb _ _ _ _ ?_)
 refine wpAny_newFunctionEnv_cells S.kind hkind fun env he s1 x => ?_
 subst he
 refine ⟨lim.keeps x.toInCall.keep, codeAny_func ?_⟩
 obtain ⟨t, ht, hq⟩ := hbody A outer s H vs Q E (hr.deeper _) hsp
 have I : Inv (cxOf CX P w K mg base N qual scope f cdv A outer s H E) [] (start N vs) H s1 := kY_ S hr.hd e0 hl r x
 refine wpAny_mono (ht [] s1 (start N vs) H _ I hq) (fun fl s' hs => ?_) fun e s' hs => hs
 have fin : ∀ {σ' : St} {H' : Hp} {v : V} {u : Value}, Inv (cxOf CX P w K mg base N qual scope f cdv A outer s H E) [] σ' H' s' → RelV v u → Q v H' → CE outer P w H s Q u s' :=
  fun {σ' H' v u} J rv q => ⟨v, H', J.os, J.bare, J.base, J.hok, rv, q⟩
 cases fl with
 | ret u =>
  obtain ⟨v, σ', H', J, rv, q⟩ := hs
  exact fin J rv q
 | next =>
  obtain ⟨σ', H', J, q⟩ := hs
  exact fin (v := V.non) (u := Value.none) J rfl q
 | brk =>
  obtain ⟨_, _, _, q⟩ := hs
  exact False.elim q
 | cont =>
  obtain ⟨_, _, _, q⟩ := hs
  exact False.elim q
end L2
namespace L2
open PySem PySem.Spec PyProof.Rows
section
variable {X : Cx} {x : Str} {p pos : Pos} {e : Expr} {es : List Expr} {t : TA} {id T : String} {r : List V → Hp → VK → Prop}
def tCB (r : List V → Hp → VK → Prop) (t : TA) : TE := fun σ H Q => t σ H fun vs H1 => r vs H1 Q
theorem lU_ (hc : CallR X (.builtin id) r) (hg : Gl X x) (hm : X.mg x = none) (hv : bootBuiltins x = some (.builtin id)) (ha : PA X (e :: es) t) (hn : x ≠ "__name__" := by decide) (hdb : (x == ("__debug__" : Str)) = false := by decide)
  (he : starEach (e :: es) X.env = (false, eval e X.env) :: starEach es X.env := by rfl) (hpl : (backTo pos (starEach es X.env)).any (·.1) = false := by rfl) : PE X (.Call (.Name x p) (e :: es) [] pos) (tCB r t) := by
 intro pins s σ H Q I h
 refine wpAny_Call_Name_kw (ev_ I hg hm hv ?_ hn hdb)
 exact PyProof.Rows.callWith_builtin1 (thn (ha pos pins s σ H _ I h) fun us s1 ⟨vs, H1, I1, r1, q1⟩ => hc pins s1 σ H1 vs us Q I1 r1 q1) he hpl
theorem kZ_ (hc : CallR X (.type T) r) (hg : Gl X x) (hm : X.mg x = none) (hv : bootBuiltins x = some (.type T)) (ha : PA X (e :: es) t) (hn : x ≠ "__name__" := by decide) (hdb : (x == ("__debug__" : Str)) = false := by decide)
  (he : starEach (e :: es) X.env = (false, eval e X.env) :: starEach es X.env := by rfl) (hpl : (backTo pos (starEach es X.env)).any (·.1) = false := by rfl) : PE X (.Call (.Name x p) (e :: es) [] pos) (tCB r t) := by
 intro pins s σ H Q I h
 refine wpAny_Call_Name_kw (ev_ I hg hm hv ?_ hn hdb)
 exact PyProof.Rows.callWith_type1 (thn (ha pos pins s σ H _ I h) fun us s1 ⟨vs, H1, I1, r1, q1⟩ => hc pins s1 σ H1 vs us Q I1 r1 q1) he hpl
end
end L2
namespace HT
open PySem PyProof.Rows
section
open PySem.SeqAt
open PySem.AutoSeq1 (wpAny_loadPart')
open PySem.MeetsSeq PySem.MeetsSeq2 PySem.MeetsSeq3
end
section
variable {prog : Program} {w : World} {A : Around} {E : Value → Shared → Prop} {s : Shared}
def sIx (n d : Nat) : Option Int → Nat
 | none => d
 | some v => if v < 0 then (v + (n : Int)).toNat else min v.toNat n
theorem sIx_none (n d : Nat) : sIx n d none = d := rfl
theorem sIx_nat (n d k : Nat) : sIx n d (some (k : Int)) = min k n := by
 show (if (k : Int) < 0 then ((k : Int) + (n : Int)).toNat else min (k : Int).toNat n) = min k n
 rw [if_neg (by omega), Int.toNat_natCast]
end
end HT
namespace L2
open PySem PySem.Spec PyProof.Rows
abbrev TO := St → Hp → (Option Int → Hp → Prop) → Prop
def PO (X : Cx) (e : Option Expr) (t : TO) : Prop :=
 ∀ (pins : List (Addr × Obj)) (s : Shared) (σ : St) (H : Hp) (Q : Option Int → Hp → Prop), Inv X pins σ H s → t σ H Q →
  wpAny (model X.prog X.w) X.A (evalPart e X.env) (fun u s' => ∃ o H', Inv X pins σ H' s' ∧ IsPart u o ∧ Q o H') X.xe s
def tNoPart : TO := fun _ H Q => Q none H
def tPart (t : TE) : TO := fun σ H Q => t σ H fun x H1 => ∃ i, x = .int i ∧ Q (some i) H1
theorem km_ {ns : List Int} : ∀ {us : List Value}, Vals (ns.map V.int) us → IntsAre us ns := by
 induction ns with
 | nil => intro us r; rw [List.map_nil] at r; cases r; exact .nil
 | cons n ns ih =>
  intro us r
  rw [List.map_cons] at r
  cases r with
  | cons r1 r2 =>
   obtain ⟨t, e⟩ := r1
   subst e
   exact .cons n t (ih r2)
section
variable {X : Cx} {e : Expr} {te : TE} {lo hi : Option Expr} {tl th : TO} {pos p2 : Pos}
theorem fY_ : PO X none tNoPart := by
 intro pins s σ H Q I h
 rw [evalPart_none]
 exact wpAny_pure ⟨none, H, I, .none, h⟩
theorem fZ_ (h : PE X e te) : PO X (some e) (tPart te) := by
 intro pins s σ H Q I hw
 rw [evalPart_some]
 refine thn (h pins s σ H _ I hw) fun u s1 ⟨x, H1, I1, r1, q1⟩ => ?_
 obtain ⟨i, rfl, q⟩ := q1
 obtain ⟨t, rfl⟩ := r1
 exact ⟨some i, H1, I1, .int i t, q⟩
def SlR (X : Cx) (r : V → Option Int → Option Int → Hp → VK → Prop) : Prop :=
 ∀ (pins : List (Addr × Obj)) (s : Shared) (σ : St) (H : Hp) (x : V) (v vl vu : Value) (lo hi : Option Int) (sl : Addr) (Q : VK), Inv X pins σ H s → RelV x v → s.heap.IsSliceOf sl vl vu .none → IsPart vl lo → IsPart vu hi → r x lo hi H Q →
  ∃ T id, typeLookup (.type T) "__getitem__" = pure (some (.builtin id)) ∧ s.TypeIs v T ∧ wpAny (model X.prog X.w) X.A (getItem v (.ref sl)) (EP X pins σ Q) X.xe s
def tSl (r : V → Option Int → Option Int → Hp → VK → Prop) (te : TE) (tl th : TO) : TE := fun σ H Q => te σ H fun x H1 => tl σ H1 fun l H2 => th σ H2 fun u H3 => r x l u H3 Q
theorem ex_ {r : V → Option Int → Option Int → Hp → VK → Prop} (hr : SlR X r) (he : PE X e te) (hl : PO X lo tl) (hu : PO X hi th) : PE X (.Subscript e (.Slice lo hi none p2) pos) (tSl r te tl th) := by
 intro pins s σ H Q I h
 refine Subscript_ (thn (he pins s σ H _ I h) fun v s1 ⟨x, H1, I1, r1, q1⟩ => ?_)
 refine wpAny_Slice (thn (hl pins s1 σ H1 _ I1 q1) fun vl s2 ⟨l, H2, I2, pl, q2⟩ => thn (hu pins s2 σ H2 _ I2 q2) fun vu s3 ⟨u, H3, I3, pu, q3⟩ => ?_)
 rw [evalPart_none]
 refine wpAny_pure ?_
 have I4 : Inv X pins σ H3 { s3 with heap := s3.heap.push { cls := .type "slice", data := .fields #[vl, vu, .none] } } := I3.kept (t' := s3.toks) fun b ob q => Heap.get?_push_of_some _ q
 obtain ⟨T, id, hT, ht, hg⟩ := hr pins { s3 with heap := s3.heap.push { cls := .type "slice", data := .fields #[vl, vu, .none] } } σ H3 x v vl vu l u s3.heap.objs.size Q I4 r1 (Heap.IsSliceOf.new ..) pl pu q3
 show wpAny (model X.prog X.w) X.A (subscriptTail e (.Slice lo hi none p2) v (.ref s3.heap.objs.size)) (EP X pins σ Q) X.xe { s3 with heap := s3.heap.push { cls := .type "slice", data := .fields #[vl, vu, .none] } }
 exact tail_any (ops := [.ref s3.heap.objs.size, v]) ht hT hg (by with_unfolding_all rfl)
def cutV (xs : List V) (lo hi : Option Int) : List V := (xs.drop (HT.sIx xs.length 0 lo)).take (HT.sIx xs.length xs.length hi - HT.sIx xs.length 0 lo)
theorem i7_ (xs : List V) (lo hi : Option Int) : (cutV xs lo hi).length ≤ xs.length := by
 unfold cutV
 rw [List.length_take, List.length_drop]
 omega
end
end L2
namespace L2
open PySem PySem.Spec PyProof.Rows
def ixN (n : Nat) (i : Int) : Option Nat := if 0 ≤ i then (if i < n then some i.toNat else none) else if -(n : Int) ≤ i then some (i + n).toNat else none
def atI {α : Type} (xs : List α) (i : Int) : Option α := (ixN xs.length i).bind fun j => xs[j]?
theorem k0_ {n : Nat} {i : Int} {j : Nat} (h : ixN n i = some j) : seqIndex? i n = some j ∧ j < n ∧ -(n : Int) ≤ i ∧ i < n := by
 unfold ixN at h
 by_cases h0 : 0 ≤ i
 ·rw [if_pos h0] at h
  by_cases h1 : i < n
  ·rw [if_pos h1] at h
   have e : i.toNat = j := Option.some.inj h
   exact ⟨by rw [seqIndex_of h0 h1, e], by omega, by omega, h1⟩
  ·rw [if_neg h1] at h; cases h
 ·rw [if_neg h0] at h
  by_cases h1 : -(n : Int) ≤ i
  ·rw [if_pos h1] at h
   have e : (i + n).toNat = j := Option.some.inj h
   exact ⟨by rw [seqIndex_neg (by omega) h1, e], by omega, h1, by omega⟩
  ·rw [if_neg h1] at h; cases h
theorem i8_ {α : Type} {xs : List α} {i : Int} {v : α} (h : atI xs i = some v) : ∃ j, seqIndex? i xs.length = some j ∧ xs[j]? = some v ∧ j < xs.length ∧ -(xs.length : Int) ≤ i ∧ i < xs.length := by
 unfold atI at h
 cases e : ixN xs.length i with
 | none => rw [e] at h; cases h
 | some j =>
  rw [e] at h
  obtain ⟨h1, h2, h3, h4⟩ := k0_ e
  exact ⟨j, h1, h, h2, h3, h4⟩
def PlainIx (b : Expr) : Prop := ∀ o i, subscripted b false o i = operate [o, i] (getItem o i)
def IxR (X : Cx) (r : R2) : Prop :=
 ∀ (value slice : Expr) (pins : List (Addr × Obj)) (s : Shared) (σ : St) (H : Hp) (x y : V) (v u : Value) (Q : VK), Inv X pins σ H s → RelV x v → RelV y u → r x y H Q →
  subscripted slice false v u = operate [v, u] (getItem v u) → wpAny (model X.prog X.w) X.A (subscriptTail value slice v u) (EP X pins σ Q) X.xe s
def MtR (X : Cx) (id : String) (r : V → List V → Hp → VK → Prop) : Prop :=
 ∀ (pins : List (Addr × Obj)) (s : Shared) (σ : St) (H : Hp) (x : V) (xs : List V) (v : Value) (us : List Value) (Q : VK), Inv X pins σ H s → RelV x v → Vals xs us → r x xs H Q →
  wpAny (model X.prog X.w) X.A (call (.builtin id) (v :: us)) (EP X pins σ Q) X.xe s
section
variable {X : Cx} {a b : Expr} {ta tb : TE} {pos : Pos}
theorem pe_ix {r : R2} (hr : IxR X r) (ha : PE X a ta) (hb : PE X b tb) (hs : PlainIx b) : PE X (.Subscript a b pos) (tOp r ta tb) := by
 intro pins s σ H Q I h
 exact Subscript_ (binT ha hb I h fun v u s2 x y H2 I2 rx ry q => hr a b pins s2 σ H2 x y v u Q I2 rx ry q (hs _ _))
def rIxL (K : PySem.W.Frag) : R2 := fun x y H Q => ∃ p xs i v, x = .ref p ∧ y = .int i ∧ SqL K H p xs ∧ atI xs i = some v ∧ Q v H
def rIxT (K : PySem.W.Frag) : R2 := fun x y H Q => ∃ p xs i v, x = .ref p ∧ y = .int i ∧ SqT K H p xs ∧ atI xs i = some v ∧ Q v H
def rIxS : R2 := fun x y H Q => ∃ z i c, x = .str z ∧ y = .int i ∧ z.length ≤ sizeLine ∧ atI z.cps.toList i = some c ∧ Q (.str ⟨#[c]⟩) H
theorem k1_ : IxR X (rIxL X.K) := by
 intro value slice pins s σ H x y v u Q I rx ry h hs
 obtain ⟨p, xs, i, z, rfl, rfl, hq, he, q⟩ := h
 cases rx
 obtain ⟨t, rfl⟩ := ry
 obtain ⟨its, r, pl, hz⟩ := I.list hq
 obtain ⟨j, h1, h2, h3, h4, h5⟩ := i8_ he
 obtain ⟨w, ew, rw'⟩ := r.get h2
 have hl := r.length
 have hn := line63
 have fin : EP X pins σ Q w s := ⟨z, H, I, rw', q⟩
 by_cases h0 : 0 ≤ i
 ·have hj : i.toNat = j := by
   rw [seqIndex_of h0 h5] at h1
   exact Option.some.inj h1
  exact item_listR pl.isList h0 (by omega) (by rw [hj]; simpa using ew) fin hs
 ·have hj : (i + (its.toArray.size : Int)).toNat = j := by
   rw [seqIndex_neg (by omega) h4] at h1
   rw [List.size_toArray, ← hl]
   exact Option.some.inj h1
  exact subscriptTail_builtinR (x := w) pl.isList.typeIs slot_list_getitem.lookup
   (wpAny_getItem_list_neg (Q := fun r s' => r = w ∧ EP X pins σ Q r s') pl.isList (by omega) (by rw [List.size_toArray] <;> omega) (by omega) (by rw [hj]; simpa using ew) ⟨rfl, fin⟩) hs
theorem mB_ : IxR X (rIxT X.K) := by
 intro value slice pins s σ H x y v u Q I rx ry h hs
 obtain ⟨p, xs, i, z, rfl, rfl, hq, he, q⟩ := h
 cases rx
 obtain ⟨t, rfl⟩ := ry
 obtain ⟨its, r, pl, hz⟩ := I.tuple hq
 obtain ⟨j, h1, h2, h3, h4, h5⟩ := i8_ he
 obtain ⟨w, ew, rw'⟩ := r.get h2
 have hl := r.length
 have hn := line63
 have fin : EP X pins σ Q w s := ⟨z, H, I, rw', q⟩
 exact subscriptTail_builtinR (x := w) pl.typeIs slot_tuple_getitem.lookup
  (getItem_tuple (j := j) (Q := fun r s' => r = w ∧ EP X pins σ Q r s') pl (by omega) (by omega) (by rw [List.size_toArray, ← hl]; exact h1) (by simpa using ew) ⟨rfl, fin⟩) hs
theorem jL_ : IxR X rIxS := by
 intro value slice pins s σ H x y v u Q I rx ry h hs
 obtain ⟨z, i, c, rfl, rfl, hz, he, q⟩ := h
 obtain ⟨t, rfl⟩ := rx
 obtain ⟨t', rfl⟩ := ry
 obtain ⟨j, h1, h2, h3, h4, h5⟩ := i8_ he
 have hl : z.cps.toList.length = z.length := by simp [Str.length]
 rw [hl] at h1 h4 h5
 have hn := line63
 exact tail_any (typeIs_str s z t) slot_str_getitem.lookup (getItem_str (c := c) (by
  have e1 : decide (i < -(2 ^ 63 : Int)) = false := decide_eq_false (by omega)
  have e2 : decide (i ≥ 2 ^ 63) = false := decide_eq_false (by omega)
  rw [e1, e2, Bool.or_false]) (by rw [h1]; simpa using h2) ⟨.str ⟨#[c]⟩, H, I.tok _, ⟨_, rfl⟩, q⟩) hs
theorem kn_ (its : List Value) (n j : Nat) (u : Value) : Obj.mapSeq (·.setIfInBounds j u) { cls := .type "list", data := .seq its.toArray n } = { cls := .type "list", data := .seq (its.set j u).toArray n } := by
 simp [Obj.mapSeq]
theorem Inv.lst {pins : List (Addr × Obj)} {σ : St} {H : Hp} {s : Shared} {p : Addr} {xs : List V} (I : Inv X pins σ H s) (h : H p = some (.lst xs)) :
  ∃ (its : List Value) (n : Nat), Vals xs its ∧ s.heap.get? p = some { cls := .type "list", data := .seq its.toArray n } ∧ xs.length ≤ sizeLine := by
 obtain ⟨z, its, n, r, e⟩ := I.hok p _ h
 exact ⟨its, n, r, e, z⟩
theorem Inv.lstUpd {pins : List (Addr × Obj)} {σ : St} {H : Hp} {s : Shared} {p : Addr} {xs ys : List V} {its its' : List Value} {n n' : Nat} {f : Obj → Obj} (I : Inv X pins σ H s) (h : H p = some (.lst xs))
  (ho : s.heap.get? p = some { cls := .type "list", data := .seq its.toArray n }) (hf : f { cls := .type "list", data := .seq its.toArray n } = { cls := .type "list", data := .seq its'.toArray n' }) (r : Vals ys its') (hz : ys.length ≤ sizeLine) (t : Nat) :
  Inv X pins σ (upd H p (.lst ys)) { s with heap := s.heap.update p f, toks := t } := by
 have e : (s.heap.update p f).get? p = some { cls := .type "list", data := .seq its'.toArray n' } := by
  rw [Heap.get?_update_self f ho (by rw [hf] <;> rfl), hf]
 refine I.write (x := p) (e := p) (by rw [h]; trivial) (.inl rfl) (fun b u hb q => (Heap.get?_update_other _ _ (Ne.symm hb)).trans q) ⟨_, e⟩ ?_
 exact ⟨hz, its', n', r, e⟩
def rSetL : V → V → V → Hp → (Hp → Prop) → Prop := fun o i v H Q => ∃ p xs k j, o = .ref p ∧ i = .int k ∧ H p = some (.lst xs) ∧ ixN xs.length k = some j ∧ Q (upd H p (.lst (xs.set j v)))
theorem ey_ : PSet X rSetL := by
 intro pins s σ H o i v ov iv u Q I ro ri rv h
 obtain ⟨p, xs, k, j, rfl, rfl, hp, hj, q⟩ := h
 cases ro
 obtain ⟨t, rfl⟩ := ri
 obtain ⟨its, n, r, ho, hz⟩ := I.lst hp
 obtain ⟨h1, h2, h3, h4⟩ := k0_ hj
 have hl := r.length
 have hn := line63
 have I' : Inv X pins σ (upd H p (.lst (xs.set j v))) { s with heap := s.heap.update p (Obj.mapSeq (·.setIfInBounds j u)) } :=
  I.lstUpd hp ho (kn_ its n j u) (r.set rv j) (by rw [List.length_set]; exact hz) s.toks
 by_cases h0 : 0 ≤ k
 ·have hk : k.toNat = j := by
   rw [seqIndex_of h0 h4] at h1
   exact Option.some.inj h1
  exact PySem.W.ki_setAt ho h0 (by omega) (by rw [List.size_toArray, ← hl]; exact h4) (by rw [hk]; exact ⟨_, I', q⟩)
 ·have hk : (k + (its.toArray.size : Int)).toNat = j := by
   rw [seqIndex_neg (by omega) h3] at h1
   rw [List.size_toArray, ← hl]
   exact Option.some.inj h1
  exact PySem.W.ki_setBack ho (by omega) (by rw [List.size_toArray, ← hl]; exact h3) (by omega) (by rw [hk]; exact ⟨_, I', q⟩)
theorem h7_ (lo hi : Option Int) (n : Nat) : (sliceBounds lo hi none n).1 = ((HT.sIx n 0 lo : Nat) : Int) ∧ (sliceBounds lo hi none n).2.1 = ((HT.sIx n n hi : Nat) : Int) ∧ (sliceBounds lo hi none n).2.2 = 1 := by
 refine ⟨?_, ?_, rfl⟩
 ·cases lo with
  | none => simp [sliceBounds, HT.sIx]
  | some i =>
   simp only [sliceBounds, HT.sIx, Option.getD_none, show (1 : Int) > 0 by decide, if_true]
   by_cases h : i < 0
   ·simp only [h, if_true] <;> omega
   ·simp only [h, if_false] <;> omega
 ·cases hi with
  | none => simp [sliceBounds, HT.sIx]
  | some i =>
   simp only [sliceBounds, HT.sIx, Option.getD_none, show (1 : Int) > 0 by decide, if_true]
   by_cases h : i < 0
   ·simp only [h, if_true] <;> omega
   ·simp only [h, if_false] <;> omega
theorem hn_ (its : List Value) (lo hi : Option Int) : slicePick its.toArray lo hi none = ((its.drop (HT.sIx its.length 0 lo)).take (HT.sIx its.length its.length hi - HT.sIx its.length 0 lo)).toArray := by
 obtain ⟨h1, h2, h3⟩ := h7_ lo hi its.toArray.size
 unfold slicePick
 rw [h1, h2, h3]
 simp only [sliceRange_one, pick_run, List.size_toArray] <;> rfl
def rSlL (K : PySem.W.Frag) : V → Option Int → Option Int → Hp → VK → Prop := fun x lo hi H Q => ∃ a xs, x = .ref a ∧ SqL K H a xs ∧ ∀ p, H p = none → Q (.ref p) (upd H p (.lst (cutV xs lo hi)))
theorem m1_ : SlR X (rSlL X.K) := by
 intro pins s σ H x v vl vu lo hi sl Q I rx hs pl pu h
 obtain ⟨a, xs, rfl, hx, q⟩ := h
 cases rx
 obtain ⟨its, r, ht, hz⟩ := I.list hx
 have hlen := r.length
 refine ⟨"list", _, slot_list_getitem.lookup, ht.isList.typeIs, ?_⟩
 refine wpAny_getItem_list_slice ht.isList hs pl pu .none (by simp) ?_ (by rw [List.size_toArray] <;> omega)
 rw [hn_, ← hlen]
 refine ⟨.ref s.heap.objs.size, _, I.laid (t' := s.toks) (o := .lst (cutV xs lo hi)) (fun b ob q => Heap.get?_push_of_some _ q) (Nat.le_refl _) ?_, rfl, q _ (I.hok.fresh (Nat.le_refl _))⟩
 exact ⟨Nat.le_trans (i7_ xs lo hi) hz, _, 0, (r.drop (HT.sIx xs.length 0 lo)).take (HT.sIx xs.length xs.length hi - HT.sIx xs.length 0 lo), Heap.get?_push_size _ rfl⟩
def flatV : V → Bool
 | .non => true
 | .bl _ => true
 | .int _ => true
 | .str _ => true
 | _ => false
def eqV : V → V → Bool
 | .non, .non => true
 | .bl a, .bl b => a == b
 | .bl a, .int b => (if a then 1 else 0) == b
 | .int a, .bl b => a == (if b then 1 else 0)
 | .int a, .int b => a == b
 | .str a, .str b => a == b
 | _, _ => false
theorem nV_ {A : Around} {s : Shared} {y x : V} {u v : Value} (ry : RelV y u) (rx : RelV x v) (fy : flatV y = true) (fx : flatV x = true) : SeqAt.EqAt A s u v (eqV y x) := by
 cases y with
 | non =>
  cases ry
  cases x with
  | non => cases rx; exact SeqAt.EqAt.same _
  | bl b => cases rx; exact SeqAt.EqAt.none_bool b
  | int b => obtain ⟨t, rfl⟩ := rx; exact SeqAt.EqAt.none_int b t
  | str b => obtain ⟨t, rfl⟩ := rx; exact SeqAt.EqAt.none_str b t
  | _ => exact absurd (show false = true from fx) Bool.false_ne_true
 | bl a =>
  cases ry
  cases x with
  | non => cases rx; exact SeqAt.EqAt.bool_none a
  | bl b => cases rx; exact SeqAt.EqAt.bool_bool a b
  | int b => obtain ⟨t, rfl⟩ := rx; exact SeqAt.EqAt.bool_int a b t
  | str b => obtain ⟨t, rfl⟩ := rx; exact SeqAt.EqAt.bool_str a b t
  | _ => exact absurd (show false = true from fx) Bool.false_ne_true
 | int a =>
  obtain ⟨t', rfl⟩ := ry
  cases x with
  | non => cases rx; exact SeqAt.EqAt.int_none a t'
  | bl b => cases rx; exact SeqAt.EqAt.int_bool a t' b
  | int b => obtain ⟨t, rfl⟩ := rx; exact SeqAt.EqAt.int_int a t' b t
  | str b => obtain ⟨t, rfl⟩ := rx; exact SeqAt.EqAt.int_str a t' b t
  | _ => exact absurd (show false = true from fx) Bool.false_ne_true
 | str a =>
  obtain ⟨t', rfl⟩ := ry
  cases x with
  | non => cases rx; exact SeqAt.EqAt.str_none a t'
  | bl b => cases rx; exact SeqAt.EqAt.str_bool a t' b
  | int b => obtain ⟨t, rfl⟩ := rx; exact SeqAt.EqAt.str_int a t' b t
  | str b => obtain ⟨t, rfl⟩ := rx; exact SeqAt.EqAt.str_str a t' b t
  | _ => exact absurd (show false = true from fx) Bool.false_ne_true
 | _ => exact absurd (show false = true from fy) Bool.false_ne_true
def eqU (x : V) (u : Value) : Bool := match u with
 | .none => eqV .non x
 | .bool b => eqV (.bl b) x
 | .int i _ => eqV (.int i) x
 | .str z _ => eqV (.str z) x
 | _ => false
theorem mC_ {x y : V} {u : Value} (r : RelV y u) (f : flatV y = true) : eqU x u = eqV y x := by
 cases y with
 | non => cases r; rfl
 | bl b => cases r; rfl
 | int i => obtain ⟨t, rfl⟩ := r; rfl
 | str z => obtain ⟨t, rfl⟩ := r; rfl
 | _ => exact absurd (show false = true from f) Bool.false_ne_true
theorem jM_ {A : Around} {s : Shared} {x : V} {v : Value} (rx : RelV x v) (fx : flatV x = true) : ∀ {xs : List V} {us : List Value}, Vals xs us → xs.all flatV = true → ∀ u ∈ us, SeqAt.EqAt A s u v (eqU x u)
 | _, _, .nil, _ => fun u hu => by cases hu
 | y :: xs, u :: us, .cons r t, f => fun u' hu => by
  rw [List.all_cons, Bool.and_eq_true] at f
  rcases List.mem_cons.mp hu with rfl | hu
  ·rw [mC_ r f.1]; exact nV_ r rx f.1 fx
  ·exact jM_ rx fx t f.2 u' hu
def inV (x : V) (xs : List V) : Bool := xs.any fun y => eqV y x
def rIn (K : PySem.W.Frag) (neg : Bool) : R2 := fun x y H Q => ∃ p xs, y = .ref p ∧ (SqL K H p xs ∨ SqT K H p xs) ∧ flatV x = true ∧ xs.all flatV = true ∧ Q (.bl (if neg then !inV x xs else inV x xs)) H
theorem dx_ : CallR X (.builtin "len") (fun xs H Q => ∃ p ys, xs = [.ref p] ∧ (SqL X.K H p ys ∨ SqT X.K H p ys) ∧ Q (.int ys.length) H) := by
 intro pins s σ H xs us Q I r h
 obtain ⟨p, ys, rfl, hq, q⟩ := h
 obtain ⟨u, rfl, rx⟩ := vals1 r
 cases rx
 have hn := line63
 rcases hq with hq | hq
 ·obtain ⟨its, r', pl, hz⟩ := I.list hq
  have hlen := r'.length
  exact Calls.call_len_list pl.isList (by simp only [List.size_toArray] <;> omega) ⟨.int ys.length, H, I.tok _, ⟨s.toks + 1, by rw [List.size_toArray, hlen]⟩, q⟩
 ·obtain ⟨its, r', pl, hz⟩ := I.tuple hq
  have hlen := r'.length
  exact len_tuple pl (by simp only [List.size_toArray] <;> omega) ⟨.int ys.length, H, I.tok _, ⟨s.toks + 1, by rw [List.size_toArray, hlen]⟩, q⟩
theorem h8_ : CallR X (.type "list") (fun xs H Q => ∃ p ys, xs = [.ref p] ∧ (SqL X.K H p ys ∨ SqT X.K H p ys) ∧ ∀ l, H l = none → Q (.ref l) (upd H l (.lst ys))) := by
 intro pins s σ H xs us Q I r h
 obtain ⟨p, ys, rfl, hq, q⟩ := h
 obtain ⟨u, rfl, rx⟩ := vals1 r
 cases rx
 have fin : ∀ (its : List Value), Vals ys its → ys.length ≤ sizeLine → ∀ (h' : Heap) (c' : Nat), (∀ b o', s.heap.get? b = some o' → h'.get? b = some o') →
   h'.get? s.heap.objs.size = some { cls := .type "list", dict := none, data := .seq its.toArray c', slots := #[] } → EP X pins σ Q (.ref s.heap.objs.size) { s with heap := h' } := fun its r' hz h' c' kp e =>
  ⟨.ref s.heap.objs.size, _, I.laid (t' := s.toks) kp (Nat.le_refl _) (show ObjOk X.prog X.w _ h' _ (.lst ys) from ⟨hz, its, c', r', e⟩), rfl, q _ (I.hok.fresh (Nat.le_refl _))⟩
 rcases hq with hq | hq
 ·obtain ⟨its, r', pl, hz⟩ := I.list hq
  have hlen := r'.length
  obtain ⟨o, ho, hc, n, hd⟩ := pl.isList
  exact call_list_seq p (.inl rfl) ho hc hd (fun h' c' kp e => fin its r' hz h' c' kp e) (by simp only [List.size_toArray] <;> omega)
 ·obtain ⟨its, r', pl, hz⟩ := I.tuple hq
  have hlen := r'.length
  obtain ⟨o, ho, hc, n, hd⟩ := pl
  exact call_list_seq p (.inr rfl) ho hc hd (fun h' c' kp e => fin its r' hz h' c' kp e) (by simp only [List.size_toArray] <;> omega)
def tyV (K : PySem.W.Frag) (T : String) (x : V) (H : Hp) : Prop := match x with
 | .str _ => T = "str"
 | .int _ => T = "int"
 | .ref p => (T = "list" ∧ ∃ xs, SqL K H p xs) ∨ (T = "tuple" ∧ ∃ o, K.lookup p = some o ∧ o.cls = .type "tuple" ∧ o.dict = none) ∨
   (T = "dict" ∧ ((∃ kvs, H p = some (.dK kvs)) ∨ ∃ kvs, H p = some (.dT kvs))) ∨ (T = "set" ∧ ∃ S n, H p = some (.set S n))
 | _ => False
theorem mD_ {pins : List (Addr × Obj)} {σ : St} {H : Hp} {s : Shared} {T : String} {x : V} {v : Value} (I : Inv X pins σ H s) (r : RelV x v) (ty : tyV X.K T x H) :
  s.TypeIs v T ∧ ∀ a, v = .ref a → ∃ ob, s.heap.get? a = some ob ∧ ob.dict = none := by
 cases x with
 | str z =>
  obtain ⟨t, rfl⟩ := r
  cases (show T = "str" from ty)
  exact ⟨typeIs_str s z t, fun _ e => nomatch e⟩
 | int i =>
  obtain ⟨t, rfl⟩ := r
  cases (show T = "int" from ty)
  exact ⟨typeIs_int s i t, fun _ e => nomatch e⟩
 | ref p =>
  cases r
  rcases ty with ⟨rfl, xs, hq⟩ | ⟨rfl, o, hk, hc, hd⟩ | ⟨rfl, hk⟩ | ⟨rfl, S, n, hk⟩
  ·obtain ⟨its, _, pl, _⟩ := I.list hq
   refine ⟨pl.isList.typeIs, fun a e => ?_⟩
   cases e
   obtain ⟨o, n, e, c, hd, _⟩ := pl
   exact ⟨o, e, hd⟩
  ·refine ⟨⟨o, I.kIn p o hk, hc⟩, fun a e => ?_⟩
   cases e
   exact ⟨o, I.kIn _ o hk, hd⟩
  ·have z : ∃ o, s.heap.get? p = some o ∧ o.ExactDict := by
    rcases hk with ⟨kvs, hk⟩ | ⟨kvs, hk⟩
    ·obtain ⟨_, _, _, _, o, _, _, e, ex, _⟩ := I.hok p _ hk
     exact ⟨o, e, ex⟩
    ·obtain ⟨_, _, _, _, o, _, _, e, ex, _⟩ := I.hok p _ hk
     exact ⟨o, e, ex⟩
   obtain ⟨o, e, ex⟩ := z
   refine ⟨⟨o, e, ex.1⟩, fun a e2 => ?_⟩
   cases e2
   exact ⟨o, e, ex.2.1⟩
  ·obtain ⟨o, _, _, _, e, ex, _⟩ := I.hok p _ hk
   refine ⟨⟨o, e, ex.1⟩, fun a e2 => ?_⟩
   cases e2
   exact ⟨o, e, ex.2.1⟩
 | _ => exact False.elim ty
def tBM0 (K : PySem.W.Frag) (T : String) (r : V → List V → Hp → VK → Prop) (to : TE) : TE := fun σ H Q => to σ H fun x H1 => tyV K T x H1 ∧ r x [] H1 Q
def tBM (K : PySem.W.Frag) (T : String) (r : V → List V → Hp → VK → Prop) (to : TE) (t : TA) : TE := fun σ H Q => to σ H fun x H1 => tyV K T x H1 ∧ t σ H1 fun xs H2 => r x xs H2 Q
variable {o e : Expr} {es : List Expr} {to : TE} {t : TA} {name : Str} {apos cpos : Pos} {T id : String} {r : V → List V → Hp → VK → Prop}
theorem nW_ (pa : PlainAttrs T) (slot : Slot T name id) (hty : typeOf (.builtin id) = pure (.type "method_descriptor")) (hm : MtR X id r) (ho : PE X o to)
  (hbase : attributeBase o name X.env (eval o X.env) = eval o X.env := by rfl) (hline : (apos.endLine == cpos.line) = true := by rfl) : PE X (.Call (.Attribute o name apos) [] [] cpos) (tBM0 X.K T r to) := by
 intro pins s σ H Q I h
 refine wpAny_Call_method0_late hbase hline (thn (ho pins s σ H _ I h) fun v s1 ⟨x, H1, I1, r1, ty, q1⟩ => ?_)
 obtain ⟨h1, h2⟩ := mD_ I1 r1 ty
 exact ⟨T, id, pa, slot, hty, h1, h2, Calls.callWith_builtin rfl (PySem.evalArgs_none (hm pins s1 σ H1 x [] v [] Q I1 r1 .nil q1))⟩
theorem pe_bm (pa : PlainAttrs T) (slot : Slot T name id) (hty : typeOf (.builtin id) = pure (.type "method_descriptor")) (hm : MtR X id r) (ho : PE X o to) (ha : PA X (e :: es) t)
  (hbase : attributeBase o name X.env (eval o X.env) = eval o X.env := by rfl)
  (hfew : ((backTo cpos (starEach (e :: es) X.env)).all (fun x => !x.1) && (backToKw cpos (keywordEach [] X.env)).all (fun x => x.1.isSome)
   && decide ((e :: es).length + ([] : List Keyword).length + (if ([] : List Keyword).isEmpty then 0 else 1) < 30)) = true := by rfl)
  (hline : (apos.endLine == cpos.line) = true := by rfl) (hs : starEach (e :: es) X.env = (false, eval e X.env) :: starEach es X.env := by rfl) (hplain : (backTo cpos (starEach es X.env)).any (·.1) = false := by rfl) :
  PE X (.Call (.Attribute o name apos) (e :: es) [] cpos) (tBM X.K T r to t) := by
 intro pins s σ H Q I h
 refine wpAny_Call_method_late hbase hfew hline rfl (thn (ho pins s σ H _ I h) fun v s1 ⟨x, H1, I1, r1, ty, q1⟩ => ?_)
 obtain ⟨h1, h2⟩ := mD_ I1 r1 ty
 refine ⟨T, id, pa, slot, hty, h1, h2, ?_⟩
 have hA := ha cpos pins s1 σ H1 _ I1 q1
 rw [hs] at hA ⊢
 refine Calls.callWith_builtin (by show (false || (backTo cpos (starEach es X.env)).any (·.1)) = false; rw [hplain] <;> rfl) (Calls.evalArgs_plain ?_)
 exact thn hA fun us s2 ⟨vs, H2, I2, r2, q2⟩ => hm pins s2 σ H2 x vs v us Q I2 r1 r2 q2
end
end L2
namespace L2
open PySem PySem.Spec PyProof.Rows
def MtM (X : Cx) (id : String) (r : V → List V → Hp → VK → Prop) : Prop :=
 ∀ (pins : List (Addr × Obj)) (s : Shared) (σ : St) (H : Hp) (x : V) (xs : List V) (v : Value) (us : List Value) (Q : VK), Inv X pins σ H s → RelV x v → Vals xs us → r x xs H Q →
  wpAny (model X.prog X.w) X.A (call (.builtin id) (v :: us)) (EP X pins σ Q) X.xe s
theorem Vals.one : ∀ {x : V} {us : List Value}, Vals [x] us → ∃ u, us = [u] ∧ RelV x u
 | _, _, .cons r .nil => ⟨_, rfl, r⟩
theorem Vals.two : ∀ {x y : V} {us : List Value}, Vals [x, y] us → ∃ u v, us = [u, v] ∧ RelV x u ∧ RelV y v
 | _, _, _, .cons r (.cons q .nil) => ⟨_, _, rfl, r, q⟩
theorem Vals.zero : ∀ {us : List Value}, Vals [] us → us = []
 | _, .nil => rfl
theorem Vals.dropLast {xs : List V} {us : List Value} (h : Vals xs us) : Vals xs.dropLast us.dropLast := by
 induction h with
 | nil => exact .nil
 | cons r t ih =>
  cases t with
  | nil => exact .nil
  | cons q t' => exact .cons r ih
theorem Vals.eraseIdx : ∀ {xs : List V} {us : List Value} (i : Nat), Vals xs us → Vals (xs.eraseIdx i) (us.eraseIdx i)
 | _, _, _, .nil => .nil
 | _, _, 0, .cons _ t => t
 | _, _, i + 1, .cons r t => .cons r (Vals.eraseIdx i t)
theorem Vals.reverse {xs : List V} {us : List Value} (h : Vals xs us) : Vals xs.reverse us.reverse := by
 induction h with
 | nil => exact .nil
 | cons r t ih => rw [List.reverse_cons, List.reverse_cons]; exact Vals.append ih (.cons r .nil)
theorem Vals.rep {xs : List V} {us : List Value} (h : Vals xs us) : ∀ k : Nat, Vals (List.replicate k xs).flatten (List.replicate k us).flatten
 | 0 => .nil
 | k + 1 => by
  rw [List.replicate_succ, List.replicate_succ, List.flatten_cons, List.flatten_cons]
  exact Vals.append h (Vals.rep h k)
theorem h9_ {α : Type} : ∀ (l : List α) (i : Nat), (l.eraseIdx i).length ≤ l.length
 | [], _ => Nat.le_refl _
 | _ :: _, 0 => Nat.le_succ _
 | _ :: r, i + 1 => Nat.succ_le_succ (h9_ r i)
section
variable {X : Cx} {pins : List (Addr × Obj)} {σ : St} {H : Hp} {s : Shared} {l b : Addr} {xs ys zs : List V}
theorem Inv.lset {its its' : List Value} {n : Nat} {f : Array Value → Array Value} {t' : Nat} (I : Inv X pins σ H s) (hH : H l = some (.lst xs))
  (e : s.heap.get? l = some { cls := .type "list", data := .seq its.toArray n }) (hf : f its.toArray = its'.toArray) (hv : Vals ys its') (hz : ys.length ≤ sizeLine) :
  Inv X pins σ (upd H l (.lst ys)) { s with heap := s.heap.update l (Obj.mapSeq f), toks := t' } := by
 have q := PySem.IsL.update e f
 rw [hf] at q
 refine I.write (x := l) (e := l) (by rw [hH]; exact trivial) (.inl rfl) (fun b' u hb hu => (Heap.get?_update_other s.heap (Obj.mapSeq f) (Ne.symm hb)).trans hu) ⟨_, q⟩ ?_
 exact ⟨hz, its', _, hv, q⟩
theorem Inv.lnew {its : List Value} {t' : Nat} (I : Inv X pins σ H s) (hv : Vals ys its) (hz : ys.length ≤ sizeLine) :
  Inv X pins σ (upd H s.heap.objs.size (.lst ys)) { s with heap := s.heap.push { cls := .type "list", data := .seq its.toArray }, toks := t' } :=
 I.laid (fun _ _ q => Heap.get?_push_of_some _ q) (Nat.le_refl _) ⟨hz, its, 0, hv, Heap.get?_push_size _ rfl⟩
theorem Inv.fresh (I : Inv X pins σ H s) : H s.heap.objs.size = none := I.hok.fresh (Nat.le_refl _)
theorem Inv.lstM (I : Inv X pins σ H s) (hH : H l = some (.lst xs)) : xs.length ≤ sizeLine ∧ ∃ (its : List Value) (n : Nat), Vals xs its ∧ xs.length = its.length ∧ s.heap.get? l = some { cls := .type "list", data := .seq its.toArray n } := by
 obtain ⟨z, its, n, r, e⟩ := I.hok l _ hH
 exact ⟨z, its, n, r, r.length, e⟩
theorem notLongL {n : Nat} (h : n ≤ sizeLine) : Builtin.List.listTooLong n = false := by
 unfold Builtin.List.listTooLong
 exact decide_eq_false (by omega)
end
section
variable {X : Cx}
def rAppend : V → List V → Hp → VK → Prop := fun x vs H Q => ∃ l xs y, x = .ref l ∧ vs = [y] ∧ H l = some (.lst xs) ∧ xs.length < sizeLine ∧ Q .non (upd H l (.lst (xs ++ [y])))
theorem bi_ : MtM X "list.append" rAppend := by
 intro pins s σ H x vs v us Q I rx rv h
 obtain ⟨l, xs, y, rfl, rfl, hH, hz, q⟩ := h
 cases rx
 obtain ⟨u, rfl, ru⟩ := rv.one
 obtain ⟨z, its, n, r, hl, e⟩ := I.lstM hH
 refine call_meets F.slot_list_append ⟨_, e, rfl⟩ F.entry_list_append (F.args_list_append_2 _ _) (PySem.list_append l its.toArray n u (by rw [List.size_toArray]; omega)) ⟨e, ?_⟩
 refine ⟨.non, _, I.lset (its' := its ++ [u]) hH e (by simp) (r.append (.cons ru .nil)) ?_, rfl, q⟩
 rw [List.length_append, List.length_singleton]
 omega
def rExtend : V → List V → Hp → VK → Prop := fun x vs H Q => ∃ l b xs zs, x = .ref l ∧ vs = [.ref b] ∧ H l = some (.lst xs) ∧ H b = some (.lst zs) ∧ xs.length + zs.length ≤ sizeLine ∧ Q .non (upd H l (.lst (xs ++ zs)))
def rPop : V → List V → Hp → VK → Prop := fun x vs H Q => ∃ l xs y, x = .ref l ∧ vs = [] ∧ H l = some (.lst xs) ∧ xs[xs.length - 1]? = some y ∧ Q y (upd H l (.lst xs.dropLast))
def rPopAt : V → List V → Hp → VK → Prop := fun x vs H Q => ∃ l xs i k y, x = .ref l ∧ vs = [.int i] ∧ H l = some (.lst xs) ∧ -(2 ^ 63) ≤ i ∧ i < 2 ^ 63 ∧ seqIndex? i xs.length = some k ∧ xs[k]? = some y ∧ Q y (upd H l (.lst (xs.eraseIdx k)))
theorem lV_ : MtM X "list.pop" rPopAt := by
 intro pins s σ H x vs v us Q I rx rv h
 obtain ⟨l, xs, i, k, y, rfl, rfl, hH, h1, h2, hk, hy, q⟩ := h
 cases rx
 obtain ⟨u, rfl, ru⟩ := rv.one
 obtain ⟨t, rfl⟩ := ru
 obtain ⟨z, its, n, r, hl, e⟩ := I.lstM hH
 obtain ⟨w, hw, rw'⟩ := r.get hy
 refine call_meets F.slot_list_pop ⟨_, e, rfl⟩ F.entry_list_pop (F.args_list_pop_2 _ _)
  (MeetsSeq.list_pop_at l its.toArray n i t k w (fitsIndex_both h1 h2) (by rw [List.size_toArray, ← hl]; exact hk) (by rw [← Array.getElem?_toList]; exact hw) (by rw [List.size_toArray]; omega)) ⟨e, ?_⟩
 refine ⟨y, _, I.lset (its' := its.eraseIdx k) hH e ?_ (r.eraseIdx k) ?_, rw', q⟩
 ·show its.toArray.eraseIdxIfInBounds k = (its.eraseIdx k).toArray
  rw [List.eraseIdxIfInBounds_toArray]
 ·have := h9_ xs k
  omega
def rReverse : V → List V → Hp → VK → Prop := fun x vs H Q => ∃ l xs, x = .ref l ∧ vs = [] ∧ H l = some (.lst xs) ∧ Q .non (upd H l (.lst xs.reverse))
def rClear : V → List V → Hp → VK → Prop := fun x vs H Q => ∃ l xs, x = .ref l ∧ vs = [] ∧ H l = some (.lst xs) ∧ Q .non (upd H l (.lst []))
def rCat : R2 := fun x y H Q => ∃ l b xs zs, x = .ref l ∧ y = .ref b ∧ H l = some (.lst xs) ∧ H b = some (.lst zs) ∧ xs.length + zs.length ≤ sizeLine ∧ ∀ p, H p = none → Q (.ref p) (upd H p (.lst (xs ++ zs)))
theorem mE_ : OpR X (binaryOp .Add) rCat := by
 intro pins s σ H x y v u Q I rx ry h
 obtain ⟨l, b, xs, zs, rfl, rfl, hH, hB, hz, q⟩ := h
 cases rx
 cases ry
 obtain ⟨z, its, n, r, hl, e⟩ := I.lstM hH
 obtain ⟨z2, its2, n2, r2, hl2, e2⟩ := I.lstM hB
 refine PySem.P.add_list e e2 ?_ (by rw [List.size_toArray, List.size_toArray]; omega)
 have ea : its.toArray ++ its2.toArray = (its ++ its2).toArray := by simp
 rw [ea]
 exact ⟨.ref _, _, I.lnew (t' := s.toks) (r.append r2) (by rw [List.length_append]; omega), rfl, q _ I.fresh⟩
end
section
variable {prog : Program} {w : World} {A : Around} {E : Value → Shared → Prop} {s : Shared}
theorem ko_ {a c n : Nat} (hac : a ≤ c) (hc : c ≤ n) : sliceBounds (some (a : Int)) (some (c : Int)) none n = ((a : Int), (c : Int), 1) := by
 simp only [sliceBounds, Option.getD_none]
 have h1 : ¬ ((a : Int) < 0) := by omega
 have h2 : ¬ ((c : Int) < 0) := by omega
 simp only [h1, h2, if_false, show (1 : Int) > 0 by decide, if_true]
 congr 1
 ·omega
 ·congr 1; omega
set_option maxRecDepth 100000 in
theorem lW_ {l b sl : Addr} {items new : Array Value} {n n2 : Nat} {vl vu : Value} {a c : Nat} {Q : Unit → Shared → Prop}
    (e : s.heap.get? l = some { cls := .type "list", data := .seq items n }) (e2 : s.heap.get? b = some { cls := .type "list", data := .seq new n2 }) (hne : l ≠ b)
    (hs : s.heap.IsSliceOf sl vl vu .none) (pl : IsPart vl (some (a : Int))) (pu : IsPart vu (some (c : Int))) (hac : a ≤ c) (hc : c ≤ items.size)
    (hsz : items.size + new.size ≤ sizeLine) (h : Q () { s with heap := s.heap.update l (Obj.mapSeq fun xs => xs.extract 0 a ++ new ++ xs.extract c xs.size) }) :
    wpAny (model prog w) A (setItem (.ref l) (.ref sl) (.ref b)) Q E s := by
  have hl : s.heap.IsList l items := PySem.IsL.isList e
  have hb : s.heap.IsList b new := PySem.IsL.isList e2
  obtain ⟨os, hos, hcs, hds⟩ := id hs
  have hTs : s.TypeIs (.ref sl) "slice" := ⟨os, hos, hcs⟩
  have hstep : ¬ ((rawPart none == rawInt 0) = true) := Bool.false_ne_true
  have hsame : Builtin.List.listSameRef (.ref l) (.ref b) = false := by
    unfold Builtin.List.listSameRef
    exact beq_eq_false_iff_ne.mpr hne
  have hmax : (max (a : Int) (c : Int)).toNat = c := by omega
  have hz' : ((fun xs : Array Value => xs.extract 0 a ++ new ++ xs.extract c xs.size) items).size ≤ sizeLine + 1 := by
    simp only [Array.size_append, Array.size_extract]
    omega
  unfold setItem
  try with_reducible refine wpAny_holding ?_
  first | refine wpAny_bind (wpAny_pure ?_) | skip
  refine wpAny_bind (wpAny_sequenceKey hl.typeIs (by decide) ?_)
  refine wpAny_bind (wpAny_callSpecial?_slot (name := Str.ofString "__setitem__") hl.typeIs slot_list_setitem
    (wpAny_call_entry slot_list_setitem hl.typeIs entry_list_setitem ?_ (args_list_setitem _ _ _)))
  show wpAny _ _ (Builtin.List.listSubscript? (.ref sl) >>= _) _ _ s
  refine wpAny_bind ?_
  unfold Builtin.List.listSubscript?
  refine wpAny_bind (wpAny_specialOf hTs slice_no_index ?_)
  simp only [Option.isNone_none, if_true]
  refine wpAny_pure ?_
  show wpAny _ _ (typeOf (.ref sl) >>= _) _ _ s
  refine wpAny_bind (wpAny_typeOf hTs ?_)
  first
    | rw [if_neg (by decide)]
    | refine PySem.W.KFB.if_not (by decide) ?_
  rw [listSliceParts_eq]
  refine wpAny_bind (wpAny_bind (wpAny_field hos hds (x := .none) rfl (wpAny_bind (wpAny_listPart .none ?_))))
  rw [if_neg hstep]
  refine wpAny_bind (wpAny_field hos hds (x := vl) rfl (wpAny_bind (wpAny_listPart pl ?_)))
  refine wpAny_bind (wpAny_field hos hds (x := vu) rfl (wpAny_bind (wpAny_listPart pu (wpAny_pure ?_))))
  first
    | simp only [hsame, Bool.false_eq_true, if_false]
    | refine PySem.W.KFB.if_not hsame ?_
    | (dsimp only
       rw [if_neg (by rw [hsame]; exact Bool.false_ne_true)])
  refine wpAny_bind (m := Builtin.List.listAllItems (.ref b) "must assign iterable to extended slice") ?_
  unfold Builtin.List.listAllItems
  refine wpAny_bind (wpAny_typeOf hb.typeIs ?_)
  first
    | refine PySem.W.KFB.if_so (by decide) ?_
    | rw [if_pos (by decide)]
    | simp only [beq_self_eq_true, Bool.true_or, if_true]
  unfold Builtin.List.listItems
  refine wpAny_bind (wpAny_seqItems e2 rfl (wpAny_pure ?_))
  refine wpAny_bind (wpAny_bind (wpAny_seqItems e rfl (wpAny_pure ?_)))
  refine wpAny_bind (wpAny_of_eq ((sliceIndices_raw (some (a : Int)) (some (c : Int)) none items.size (by simp)).trans (congrArg (pure : Int × Int × Int → Sem (Int × Int × Int)) (ko_ hac hc))) ?_)
  show wpAny _ _ (if ((1 : Int) == 1) = true then _ else _) _ _ s
  rw [if_pos (by decide)]
  refine wpAny_bind (wpAny_rule ?_)
  first
    | simp only [notLongL hsz, Bool.false_eq_true, if_false]
    | refine PySem.W.KFB.if_not (notLongL hsz) ?_
  first | refine wpAny_bind (wpAny_pure ?_) | skip
  show wpAny _ _ (updateSeq l (fun xs => xs.extract 0 ((a : Int)).toNat ++ new ++ xs.extract (max (a : Int) (c : Int)).toNat xs.size) >>= _) _ _ s
  rw [hmax, Int.toNat_natCast]
  refine wpAny_bind (wpAny_updateSeq (hz := Nat.le_trans (Nat.le_add_right _ _) hsz) (_hz' := hz') e rfl ?_)
  refine wpAny_bind (wpAny_letGo ?_)
  first
    | exact wpAny_bind (wpAny_pure (wpAny_pure ⟨.none, rfl, wpAny_pure h⟩))
    | exact wpAny_pure ⟨.none, rfl, wpAny_pure h⟩
end
section
variable {X : Cx}
end
end L2
namespace Att
open PySem PySem.W PySem.Calls PyProof.Rows
theorem f0_ {P : Params} {h : Heap} : ∀ (ns : List Int) (vs : List Value), WellAll P h vs (ns.map WData.int) → IntsAre vs ns := by
 intro ns
 induction ns with
 | nil =>
  intro vs w
  rw [List.map_nil] at w
  cases w
  exact .nil
 | cons n ns ih =>
  intro vs w
  rw [List.map_cons] at w
  cases w with
  | cons a b =>
   cases a
   exact .cons _ _ (ih _ b)
theorem k2_ {l : OpenLaw} {n : Nat} (hn : l.most = some n) {P : Params} {h : Heap} {args : List WData} {vals : List Value}
  (hpre : l.row.toRowW.claim.pre args = true) (hwl : WellAll P h vals args) :
  ∃ a vs ns, vals = [Value.ref a] ∧ args = [WData.list (ns.map WData.int)] ∧ h.get? a = some { cls := .type "list", data := .seq vs.toArray } ∧ IntsAre vs ns ∧ ns.length ≤ n := by
 have hsh : WShape.hasAll [] args [.list .int] = true := (pre_splitW hpre).1
 have hc : l.pre.holds [] { args := args } = true := (pre_splitW hpre).2
 obtain ⟨d, r, rfl, h1, h2⟩ := hasAllW_cons hsh
 obtain rfl := hasAllW_nil h2
 obtain ⟨xs, rfl, h3⟩ := hasW_list h1
 obtain ⟨ns, rfl⟩ := items_int h3
 have hlen : ns.length ≤ n := by
  unfold OpenLaw.pre at hc
  have h4 : (WTm.not (.lt (.lit (.int (n : Int))) (.len (.arg 0)))).holds [] { args := [.list (ns.map .int)] } = true := by
   have h4 := (holds_andW hc).1
   rw [hn] at h4
   exact h4
  have h5 := condW_of h4 (w_not (w_lt w_lit (w_len_list (w_arg rfl))))
  rw [List.length_map] at h5
  refine Nat.le_of_not_lt fun q => ?_
  have q' : (n : Int) < ((ns.length : Nat) : Int) := by omega
  first
   | (rw [decide_eq_true q'] at h5; exact absurd h5 (by decide))
   | (simp at h5; omega)
 cases hwl with
 | cons w1 w2 =>
  cases w2
  cases w1 with
  | list ho hall => exact ⟨_, _, ns, rfl, rfl, ho, f0_ ns _ hall, hlen⟩
theorem k3_ (l : OpenLaw) (args : List WData) : l.row.toRowW.claim.post args (.bool true) args = true :=
 postW_of (r := l.row.toRowW) (X := (true == true))
  (show WShape.has [] (.bool true) .bool = true by first | rfl | decide | simp [WShape.has, WShape.arms, WShape.armsAll])
  (show (WTm.eq .res (.lit (.bool true))).value [] { args := args, res := some (.bool true), after := args } = some (.bool (true == true)) from w_eq_bool (w_res rfl) w_lit) rfl
theorem attach_call {l : OpenLaw} {n : Nat} {q : Program} {loose : List Str} {XP : (Str → Option Value) → Heap → Prop} {YP : World → Heap → Prop} {d : DefRec}
  (hn : l.most = some n) (hdf : d.params.defaults = [])
  (call : ∀ (w : World) (s₀ s₁ : Shared) (mg mb : Str → Option Value) (fa : Addr) (o : Obj) (pm cd doc : Value) (a : Addr) (vs : List Value) (ns : List Int),
   Ground q loose [] XP w s₀ mg mb s₁.heap → YP w s₁.heap →
   s₁.heap.get? fa = some o → o.data = .func (docDef d.name d.params d.body d.scope pm cd doc) → s₁.heap.CodeRec cd d.name → mg d.name = some (.ref fa) →
   s₁.heap.get? a = some { cls := .type "list", data := .seq vs.toArray } → IntsAre vs ns → ns.length ≤ n → s₁.gens = #[] →
   codeAny (model l.prog w) callerA (.call (.ref fa) ⟨[.ref a], []⟩) (fun r s' => r = .ok (.ret (.bool true)) ∧ OldK s₁.heap s'.heap ∧ s'.os = s₁.os ∧ AllBare s'.gens) s₁) :
  WalkO q loose XP YP l.row.toRowW d [] (fun f vs => PySem.call f vs) := by
 intro w s₀ s₁ mg mb G Y fa o pm cd doc dV kV ho hd hcd hD hmg hg args vals as hpre hlay hrd hwl hlo
 obtain rfl : dV = .none := Dflts.none hD hdf
 obtain rfl : kV = .none := Dflts.noKw hD
 obtain ⟨a, vs, ns, rfl, rfl, hobj, hints, hlen⟩ := k2_ hn hpre hwl
 refine enter_call (codeAny_mono (call w s₀ s₁ mg mb fa o pm cd doc a vs ns G Y ho (fd_plain hd) hcd hmg hobj hints hlen hg) fun r s' hq => ?_)
 obtain ⟨rfl, h2, h3, h4⟩ := hq
 exact ⟨.inl ⟨.bool true, .bool true, [], rfl, fun _ => rfl, .bool true, k3_ l _, fun _ => ⟨List.Pairwise.nil, fun _ hm => (nomatch hm)⟩⟩, h2, h3, h4⟩
section
variable {prog : Program} {w : World} {A : Around} {E : Value → Shared → Prop} {s : Shared} {K : Frag}
end
end Att
namespace L2
open PySem PySem.Spec PyProof.Rows
theorem ia_ : ∀ {vs : List Value} {ns : List Int}, IntsAre vs ns → Vals (ns.map V.int) vs
 | _, _, .nil => .nil
 | _, _, .cons n t h => .cons ⟨t, rfl⟩ (ia_ h)
def Only (H : Hp) : Prop := ∀ b, H b = none ∨ ∃ o xs, H b = some (.frz o (.lst xs))
theorem lX_ {P : Program} {w : World} {K : PySem.W.Frag} {mg mb : Str → Option Value} {CX : CXT} {k : Nat} {fa a : Addr} {fd : FuncData} {x : Str} {sp : Sp} {s₁ : Shared} {vs : List Value} {ns : List Int}
  (KX : K.In s₁.heap) (hns : s₁.heap.Ns mainGlobals mg) (hb : s₁.heap.Ns builtinsNs mb) (hbb : ∀ x : Str, x ≠ "__name__" → mb x = bootBuiltins x) (hlim : s₁.heap.NoLimit) (hg : s₁.gens = #[])
  (ha : s₁.heap.get? a = some { cls := .type "list", data := .seq vs.toArray }) (hi : IntsAre vs ns) (hl : ns.length ≤ sizeLine) (hr : Room k callerA)
  (F : ∀ base : Heap, K.In base → base.Ns mainGlobals mg → FnOk P w K mg base CX k fa fd [x] sp) (hbind : ∀ (s : Shared) (u : Value), BindsTo s fd ⟨[u], []⟩ [(x, u)])
  (hsp : ∀ H : Hp, Only H → SqL K H a (ns.map V.int) → sp [.ref a] H (fun v _ => v = .bl true) fun _ _ _ => False)
  (hCX : ∀ H e s', CX [] H s₁ (fun _ _ _ => False) e s' → False) :
  codeAny (model P w) callerA (.call (.ref fa) ⟨[.ref a], []⟩) (fun r s' => r = .ok (.ret (.bool true)) ∧ OldK s₁.heap s'.heap ∧ s'.os = s₁.os ∧ AllBare s'.gens) s₁ := by
 have rv := ia_ hi
 have lenV := hi.length
 -- from an abstract heap in which nothing but the script may be tracked
 have core : ∀ H : Hp, Only H → SqL K H a (ns.map V.int) → HOk P w H s₁.heap → (∀ b, H b ≠ none → b = a) → (H a ≠ none → K.lookup a = none) →
   codeAny (model P w) callerA (.call (.ref fa) ⟨[.ref a], []⟩) (fun r s' => r = .ok (.ret (.bool true)) ∧ OldK s₁.heap s'.heap ∧ s'.os = s₁.os ∧ AllBare s'.gens) s₁ := by
  intro H hO hS hok hA hK
  have base_of : ∀ {b : Addr} {o : Obj}, s₁.heap.get? b = some o → H b = none → (hidT s₁.heap H).get? b = some o := fun e n => lS_ e n
  have noA : ∀ {b : Addr} {o : Obj} {es : Array DictEntry} {ep : Nat}, s₁.heap.get? b = some o → o.data = .dict es ep → H b = none := fun {b o es ep} e d => by
   cases q : H b with
   | none => rfl
   | some u =>
    have e' : b = a := hA b (by rw [q]; simp)
    subst e'
    rw [ha] at e; cases e
    have d' : Data.seq vs.toArray _ = Data.dict es ep := d
    cases d'
  have nsK : ∀ {b : Addr} {m : Str → Option Value}, s₁.heap.Ns b m → (hidT s₁.heap H).Ns b m := fun {b m} ⟨o, es, ep, e, d, r⟩ => ⟨o, es, ep, base_of e (noA e d), d, r⟩
  have hKb : K.In (hidT s₁.heap H) := fun b o e => base_of (KX b o e) (by
   cases q : H b with
   | none => rfl
   | some u =>
    have e' : b = a := hA b (by rw [q]; simp)
    subst e'
    rw [hK (by rw [q]; simp)] at e; cases e)
  have hM : Mod K mg (hidT s₁.heap H) := ⟨hKb, nsK hns, ⟨mb, nsK hb, hbb⟩, let ⟨mc, h1, h2⟩ := hlim; ⟨mc, nsK h1, h2⟩⟩
  have e0 : Env0 P w K mg (hidT s₁.heap H) callerA [] s₁ H := ⟨rfl, hM, fun b o e => mU_ e, Nat.le_of_eq (kI_ _ _), trivial, fun b hb => absurd (show b ∈ ([] : List Addr) from hb) (by simp), hok, .of_eq hg⟩
  refine codeAny_mono ((F _ hKb (nsK hns)).run callerA [] s₁ H ⟨[.ref a], []⟩ [.ref a] [.ref a] _ _ hr e0 (hbind s₁ (.ref a)) (.cons rfl .nil) (hsp H hO hS)) fun r s' h => ?_
  cases r with
  | error e => exact (hCX H e s' h).elim
  | ok fl =>
   cases fl with
   | next => exact False.elim h
   | brk => exact False.elim h
   | cont => exact False.elim h
   | ret u =>
    obtain ⟨v, H', os, bare, un, hok', r', q⟩ := h
    have q' : v = .bl true := q
    subst q'
    obtain rfl : u = Value.bool true := r'
    refine ⟨rfl, OldK.of_keep fun b o e => ?_, os, bare⟩
    cases q : H b with
    | none => exact un.keep b o e q (by intro z; exact absurd (show b ∈ ([] : List Addr) from z) (by simp)) (by simp)
    | some u =>
     rcases hO b with z | ⟨ob, xs, z⟩
     ·rw [q] at z; cases z
     ·have z2 := un.frzs b ob _ z
      obtain ⟨e1, _⟩ := hok b _ z
      obtain ⟨e2, _⟩ := hok' b _ z2
      rw [e] at e1; cases e1
      exact e2
 cases hk : K.lookup a with
 | some o =>
  -- the script is one of the module's own objects
  have e := KX a o hk
  rw [ha] at e
  cases e
  refine core (fun _ => none) (fun _ => .inl rfl) (.inr ⟨_, vs.toArray, _, hk, rfl, rfl, rfl, by rw [List.size_toArray, lenV]; exact hl, by simpa using rv⟩) (fun b u z => by have z' : (none : Option HO) = some u := z; cases z') (fun b z => absurd rfl z) fun z => absurd rfl z
 | none =>
  refine core (fun b => if b = a then some (.frz { cls := .type "list", data := .seq vs.toArray } (.lst (ns.map V.int))) else none) (fun b => ?_) (.inl (.inr ⟨{ cls := .type "list", data := .seq vs.toArray }, if_pos rfl⟩)) (fun b u z => ?_) (fun b z => ?_) fun _ => hk
  ·by_cases hb : b = a
   ·exact .inr ⟨_, _, if_pos hb⟩
   ·exact .inl (if_neg hb)
  ·by_cases hb : b = a
   ·have z' := (if_pos hb).symm.trans z
    cases z'
    subst hb
    exact ⟨ha, by rw [List.length_map]; exact hl, vs, _, rv, ha⟩
   ·have z' := (if_neg hb).symm.trans z
    cases z'
  ·by_cases hb : b = a
   ·exact hb
   ·exact absurd (if_neg hb) z
end L2
namespace L2
open PySem PySem.Spec PyProof.Rows
theorem m2_ {l : PySem.W.OpenLaw} {n k : Nat} {q : Program} {loose : List Str} {XP : (Str → Option Value) → Heap → Prop} {YP : World → Heap → Prop} {d : DefRec} {K : Params → PySem.W.Frag} {CX : World → CXT} {sp : World → Sp} {x : Str}
  (hn : l.most = some n) (hn2 : n ≤ sizeLine) (hdf : d.params.defaults = []) (hr : Room k callerA)
  (hY : ∀ (w : World) (h : Heap), YP w h → (K w.params).In h)
  (F : ∀ (w : World) (mg : Str → Option Value) (fa : Addr) (h : Heap), (K w.params).In h → h.Ns mainGlobals mg → mg d.name = some (.ref fa) →
   ∃ fd : FuncData, (∀ (s : Shared) (u : Value), BindsTo s fd ⟨[u], []⟩ [(x, u)]) ∧
    ∀ base : Heap, (K w.params).In base → base.Ns mainGlobals mg → FnOk l.prog w (K w.params) mg base (CX w) k fa fd [x] (sp w))
  (hsp : ∀ (w : World) (H : Hp) (a : Addr) (ns : List Int), ns.length ≤ n → Only H → SqL (K w.params) H a (ns.map V.int) → sp w [.ref a] H (fun v _ => v = .bl true) fun _ _ _ => False)
  (hCX : ∀ (w : World) (H : Hp) (s : Shared) (e : Value) (s' : Shared), CX w [] H s (fun _ _ _ => False) e s' → False) :
  PySem.W.WalkO q loose XP YP l.row.toRowW d [] (fun f vs => PySem.call f vs) := by
 refine Att.attach_call hn hdf fun w s₀ s₁ mg mb fa o pm cd doc a vs ns G Y ho hd hcd hmg hobj hints hlen hg => ?_
 have KX := hY w _ Y
 obtain ⟨fd, hb, hF⟩ := F w mg fa _ KX G.T.g hmg
 exact lX_ KX G.T.g G.T.b G.T.builtins G.T.nolimit hg hobj hints (Nat.le_trans hlen hn2) hr hF hb (fun H hO hS => hsp w H a ns hlen hO hS) fun H e s' => hCX w H s₁ e s'
end L2
namespace L2
open PySem PySem.Spec PyProof.Rows
def defArgs (s : Stmt) : Arguments := match s with
 | .FunctionDef _ a _ _ _ _ _ _ _ _ => a
 | _ => { posonlyargs := [], args := [], vararg := none, kwonlyargs := [], kw_defaults := [], kwarg := none, defaults := [] }
def defBody (s : Stmt) : List Stmt := match s with
 | .FunctionDef _ _ b _ _ _ _ _ _ _ => b
 | _ => []
def defScope (s : Stmt) : Scope := match s with
 | .FunctionDef _ _ _ _ _ _ sc _ _ _ => sc
 | _ => { kind := .function, names := [], isGenerator := false, isCoroutine := false }
abbrev CX0 : CXT := fun _ _ _ _ _ _ => False
abbrev E0 : XK := fun _ _ _ => False
theorem pass0 {X : Cx} : Passes CX0 X E0 := fun _ _ _ _ _ _ _ h => h.elim
structure Fun (K : PySem.W.Frag) (x qual : Str) (st : Stmt) (f : Addr) (fd : FuncData) : Prop where
 ex : ∃ (oc : Value) (od : Option Addr) (kV doc pm : Value) (an : Option Addr) (cdv ct : Value) (osl : Array (Option Value)),
  fd = PySem.W.fnOf x qual (defArgs st) (defBody st) (defScope st) .none kV doc pm an cdv ct ∧ K.lookup f = some ⟨oc, od, .func fd, osl⟩ ∧ PySem.W.codeIn K cdv qual = true
 kp : PySem.W.keepIn K (.ref f) = true
section
variable {P : Program} {w : World} {K : PySem.W.Frag} {mg : Str → Option Value} {base : Heap}
theorem Fun.ok {x qual : Str} {st : Stmt} {f : Addr} {fd : FuncData} {N ps : List Str} {k : Nat} {sp : Sp} (F : Fun K x qual st f fd) (S : FnScope N ps (defScope st)) (len : ∀ vs H Q E, sp vs H Q E → vs.length = ps.length)
  (hbody : ∀ (cdv : Value) (A : Around) (outer : List Env) (s : Shared) (H : Hp) (vs : List V) (Q : VK) (E : XK), Room k (A.deeper (envOfC qual (defScope st) s.heap.objs.size f cdv)) → sp vs H Q E →
   ∃ t, PSs (cxOf CX0 P w K mg base N qual (defScope st) f cdv A outer s H E).nox (defBody st) t ∧ t { nx := fun _ H' => Q .non H', rt := Q } (start N vs) H) : FnOk P w K mg base CX0 (k + 1) f fd ps sp := by
 obtain ⟨oc, od, kV, doc, pm, an, cdv, ct, osl, rfl, lk, hcd⟩ := F.ex
 refine fn_of lk hcd S len fun A outer s H vs Q E hr hsp => ?_
 obtain ⟨t, h, q⟩ := hbody cdv A outer s H vs Q E hr hsp
 exact ⟨t, h.nox, q⟩
theorem Fun.binds {x qual : Str} {st : Stmt} {f : Addr} {fd : FuncData} {ps : List Str} (F : Fun K x qual st f fd)
  (h : ∀ (kV doc pm : Value) (an : Option Addr) (cdv ct : Value) (us : List Value), us.length = ps.length → bindArgs (PySem.W.fnOf x qual (defArgs st) (defBody st) (defScope st) .none kV doc pm an cdv ct) ⟨us, []⟩ = pure (ps.zip us)) : Binds K fd ps [] := by
 obtain ⟨oc, od, kV, doc, pm, an, cdv, ct, osl, rfl, lk, hcd⟩ := F.ex
 exact .all (h kV doc pm an cdv ct)
theorem nX_ {x qual : Str} {st : Stmt} {f : Addr} {oc : Value} {od an : Option Addr} {osl : Array (Option Value)} {kV doc pm cdv ct : Value} (l : K.lookup f = some ⟨oc, od, .func (PySem.W.fnOf x qual (defArgs st) (defBody st) (defScope st) .none kV doc pm an cdv ct), osl⟩)
  (c : PySem.W.codeIn K cdv qual = true) (k : PySem.W.keepIn K (.ref f) = true) : Fun K x qual st f (PySem.W.fnOf x qual (defArgs st) (defBody st) (defScope st) .none kV doc pm an cdv ct) := ⟨⟨oc, od, kV, doc, pm, an, cdv, ct, osl, rfl, l, c⟩, k⟩
end
theorem small1000 {n : Nat} (h : n ≤ 1000) : n < sizeLine := Nat.lt_of_le_of_lt h (by decide)
section
variable {X : Cx}
theorem pv (i : Nat) {x : Str} {pos : Pos} (hN : X.N[i]? = some x := by rfl) (hv : Vis X.env.scope x := by first | exact Or.inl rfl | exact Or.inr (Or.inl rfl) | exact Or.inr (Or.inr rfl)) (hd : (x == ("__debug__" : Str)) = false := by decide)
  (hcd : (x == ("__classdict__" : Str)) = false := by decide) : PE X (.Name x pos) (tVar i) := kJ_ hN hv hd hcd
end
theorem ite2 {c A B : Prop} [Decidable c] (h1 : c → A) (h2 : ¬ c → B) : if c then A else B := by
 by_cases h : c
 ·rw [if_pos h]
  exact h1 h
 ·rw [if_neg h]
  exact h2 h
def Same (H H' : Hp) : Prop := ∀ b o, H b = some o → H' b = some o
theorem Same.refl (H : Hp) : Same H H := fun _ _ h => h
theorem Same.trans {H H1 H2 : Hp} (a : Same H H1) (b : Same H1 H2) : Same H H2 := fun c o h => b c o (a c o h)
theorem Same.free {H H' : Hp} (e : Same H H') {l : Addr} (h : H' l = Option.none) : H l = Option.none := by
 cases q : H l with
 | none => rfl
 | some o =>
  rw [e l o q] at h
  cases h
theorem Same.seq {K : PySem.W.Frag} {H H' : Hp} {a : Addr} {xs : List V} (e : Same H H') (h : SqL K H a xs) : SqL K H' a xs := by
 rcases h with (h | ⟨o, h⟩) | h
 ·exact .inl (.inl (e _ _ h))
 ·exact .inl (.inr ⟨o, e _ _ h⟩)
 ·exact .inr h
end L2
namespace L2
open PySem PySem.Spec PyProof.Rows
def kindV (H : Hp) : V → Option String
 | .non => some "NoneType"
 | .bl _ => some "bool"
 | .int _ => some "int"
 | .str _ => some "str"
 | .ref p => match H p with
  | some (.lst _) => some "list"
  | some (.tup _) => some "tuple"
  | _ => none
 | _ => none
def subT (a b : String) : Bool := a == b || (a == "bool" && b == "int")
def plainT (T : String) : Prop := T = "int" ∨ T = "bool" ∨ T = "tuple" ∨ T = "list" ∨ T = "str"
section
variable {X : Cx}
theorem fN_ : CallR X (.builtin "isinstance") (fun xs H Q => ∃ x T k, xs = [x, .ty T] ∧ plainT T ∧ kindV H x = some k ∧ Q (.bl (subT k T)) H) := by
 intro pins s σ H xs us Q I r h
 obtain ⟨x, T, k, rfl, hT, hk, q⟩ := h
 obtain ⟨u, w', rfl, rx, ry⟩ := vals2 r
 cases (show w' = Value.type T from ry)
 have fin : ∀ {b : Bool} {s' : Shared}, b = subT k T → Inv X pins σ H s' → EP X pins σ Q (.bool b) s' := fun {b s'} e J => ⟨.bl b, H, J, rfl, by rw [e]; exact q⟩
 cases x with
 | non =>
  cases (show u = Value.none from rx)
  cases hk
  rcases hT with rfl | rfl | rfl | rfl | rfl
  ·exact IsiPair.NoneType_int (fin (by decide) (I.tok _))
  ·exact IsiPair.NoneType_bool (fin (by decide) (I.tok _))
  ·exact IsiPair.NoneType_tuple (fin (by decide) (I.tok _))
  ·exact IsiPair.NoneType_list (fin (by decide) (I.tok _))
  ·exact IsiPair.NoneType_str (fin (by decide) (I.tok _))
 | bl b =>
  cases (show u = Value.bool b from rx)
  cases hk
  rcases hT with rfl | rfl | rfl | rfl | rfl
  ·exact IsiPair.bool_int (fin (by decide) I)
  ·exact IsiPair.bool_bool (fin (by decide) I)
  ·exact IsiPair.bool_tuple (fin (by decide) (I.tok _))
  ·exact IsiPair.bool_list (fin (by decide) (I.tok _))
  ·exact IsiPair.bool_str (fin (by decide) (I.tok _))
 | int i =>
  obtain ⟨t, rfl⟩ := (show ∃ t, u = Value.int i t from rx)
  cases hk
  rcases hT with rfl | rfl | rfl | rfl | rfl
  ·exact IsiPair.int_int (fin (by decide) I)
  ·exact IsiPair.int_bool (fin (by decide) (I.tok _))
  ·exact IsiPair.int_tuple (fin (by decide) (I.tok _))
  ·exact IsiPair.int_list (fin (by decide) (I.tok _))
  ·exact IsiPair.int_str (fin (by decide) (I.tok _))
 | str z =>
  obtain ⟨t, rfl⟩ := (show ∃ t, u = Value.str z t from rx)
  cases hk
  rcases hT with rfl | rfl | rfl | rfl | rfl
  ·exact IsiPair.str_int (fin (by decide) (I.tok _))
  ·exact IsiPair.str_bool (fin (by decide) (I.tok _))
  ·exact IsiPair.str_tuple (fin (by decide) (I.tok _))
  ·exact IsiPair.str_list (fin (by decide) (I.tok _))
  ·exact IsiPair.str_str (fin (by decide) I)
 | ref p =>
  cases (show u = Value.ref p from rx)
  cases e : H p with
  | none => simp [kindV, e] at hk
  | some o =>
   cases o with
   | lst ys =>
    have hk' : k = "list" := by simp [kindV, e] at hk; exact hk.symm
    subst hk'
    obtain ⟨its, n, rr, ho, hz⟩ := I.lst e
    rcases hT with rfl | rfl | rfl | rfl | rfl
    ·exact IsiPair.list_int ho rfl (fin (by decide) (I.tok _))
    ·exact IsiPair.list_bool ho rfl (fin (by decide) (I.tok _))
    ·exact IsiPair.list_tuple ho rfl (fin (by decide) (I.tok _))
    ·exact IsiPair.list_list ho rfl (fin (by decide) I)
    ·exact IsiPair.list_str ho rfl (fin (by decide) (I.tok _))
   | tup ys =>
    have hk' : k = "tuple" := by simp [kindV, e] at hk; exact hk.symm
    subst hk'
    obtain ⟨its, rr, ⟨ob, ho, hc, _⟩, hz⟩ := I.tuple (xs := ys) (.inl (.inl e))
    rcases hT with rfl | rfl | rfl | rfl | rfl
    ·exact IsiPair.tuple_int ho hc (fin (by decide) (I.tok _))
    ·exact IsiPair.tuple_bool ho hc (fin (by decide) (I.tok _))
    ·exact IsiPair.tuple_tuple ho hc (fin (by decide) I)
    ·exact IsiPair.tuple_list ho hc (fin (by decide) (I.tok _))
    ·exact IsiPair.tuple_str ho hc (fin (by decide) (I.tok _))
   | _ => simp [kindV, e] at hk
 | _ => cases hk
def rBits : V → List V → Hp → VK → Prop := fun x xs H Q => ∃ i, x = .int i ∧ xs = [] ∧ Q (.int (Builtin.Int.intBits i : Nat)) H
theorem m3_ : MtR X "int.bit_length" rBits := by
 intro pins s σ H x xs v us Q I rx rs h
 obtain ⟨i, rfl, rfl, q⟩ := h
 obtain ⟨t, rfl⟩ := rx
 cases rs
 exact call_gives F.slot_int_bit_length (typeIs_int s i t) F.entry_int_bit_length (F.args_int_bit_length_1 _) (AutoIntG2.int_bit_length_int_0 i t) ⟨.int (Builtin.Int.intBits i : Nat), H, I.tok _, ⟨_, rfl⟩, q⟩
def CMulB (i j : Int) : Prop := Builtin.Int.intBits i + Builtin.Int.intBits j ≤ 134217728
theorem a8_ : OpR X (binaryOp .Mult) (rI CMulB fun i j => .int (i * j)) := opI fun i j _ _ _ _ _ hc q => mul_int q (mulOk_of_bits (Nat.le_refl _) (Nat.le_refl _) hc)
def CDivB (i j : Int) : Prop := 0 < j ∧ j.natAbs.log2 < 9000
theorem au_ : OpR X (binaryOp .FloorDiv) (rI CDivB fun i j => .int (i / j)) := opI fun i j _ _ _ _ _ hc q => by
 have h1 : (0 : Int) < j := hc.1
 exact floordiv_int (by omega) (by rw [Int.fdiv_eq_ediv_of_nonneg i (by omega)]; exact q) (.inl (PyProof.noPylong_of_log2 hc.2))
def CDivF (i j : Int) : Prop := j ≠ 0 ∧ j.natAbs.log2 < 9000
theorem jN_ : OpR X (binaryOp .FloorDiv) (rI CDivF fun i j => .int (i.fdiv j)) := opI fun i j _ _ _ _ _ hc q =>
 floordiv_int hc.1 q (.inl (PyProof.noPylong_of_log2 hc.2))
def eqVs : List V → List V → Bool
 | [], [] => true
 | x :: xs, y :: ys => eqV x y && eqVs xs ys
 | _, _ => false
end
end L2
namespace L2
open PySem PySem.Spec PyProof.Rows
def Fn0 (K : PySem.W.Frag) (mg : Str → Option Value) (x : Str) (st : Stmt) : Prop := ∃ f fd, Fun K x x st f fd ∧ mg x = some (.ref f)
theorem nY_ {K : PySem.W.Frag} {mg : Str → Option Value} {h : Heap} (X : K.In h) (G : h.Ns mainGlobals mg) {x : Str} {st : Stmt} {f : Addr} {oc : Value} {od an : Option Addr} {osl : Array (Option Value)} {kV doc pm cdv ct : Value}
  (a : PySem.W.nsIn K mainGlobals x = some (some (.ref f))) (l : K.lookup f = some ⟨oc, od, .func (PySem.W.fnOf x x (defArgs st) (defBody st) (defScope st) .none kV doc pm an cdv ct), osl⟩) (c : PySem.W.codeIn K cdv x = true) (k : PySem.W.keepIn K (.ref f) = true) : Fn0 K mg x st :=
 ⟨f, _, nX_ l c k, PySem.W.mg_of X G a⟩
def Cal (P : Program) (w : World) (K : PySem.W.Frag) (mg : Str → Option Value) (base : Heap) (x : Str) (ps : List Str) (k : Nat) (sp : Sp) : Prop :=
 ∃ f fd, mg x = some (.ref f) ∧ PySem.W.keepIn K (.ref f) = true ∧ Binds K fd ps [] ∧ FnOk P w K mg base CX0 k f fd ps sp
theorem aJ_ {P : Program} {w : World} {K : PySem.W.Frag} {mg : Str → Option Value} {base : Heap} {x : Str} {st : Stmt} {N ps : List Str} {k : Nat} {sp : Sp} (F : Fn0 K mg x st) (S : FnScope N ps (defScope st))
  (hb : ∀ (kV doc pm : Value) (an : Option Addr) (cdv ct : Value) (us : List Value), us.length = ps.length → bindArgs (PySem.W.fnOf x x (defArgs st) (defBody st) (defScope st) .none kV doc pm an cdv ct) ⟨us, []⟩ = pure (ps.zip us))
  (len : ∀ vs H Q E, sp vs H Q E → vs.length = ps.length)
  (hbody : ∀ (f : Addr) (cdv : Value) (A : Around) (outer : List Env) (s : Shared) (H : Hp) (vs : List V) (Q : VK) (E : XK), Room k (A.deeper (envOfC x (defScope st) s.heap.objs.size f cdv)) → sp vs H Q E →
   ∃ t, PSs (cxOf CX0 P w K mg base N x (defScope st) f cdv A outer s H E).nox (defBody st) t ∧ t { nx := fun _ H' => Q .non H', rt := Q } (start N vs) H) : Cal P w K mg base x ps (k + 1) sp := by
 obtain ⟨f, fd, F, m⟩ := F
 exact ⟨f, fd, m, F.kp, F.binds hb, F.ok S len fun cdv A outer s H vs Q E => hbody f cdv A outer s H vs Q E⟩
section
variable {X : Cx} {x : Str} {ps : List Str} {k : Nat} {sp : Sp} {e : Expr} {es : List Expr} {t : TA} {p pos : Pos}
theorem lY_ (C : Cal X.prog X.w X.K X.mg X.base x ps k sp) (hr : Room k X.A) (hg : Gl X x) (ha : PA X (e :: es) t) (hdb : (x == ("__debug__" : Str)) = false := by decide)
  (he : starEach (e :: es) X.env = (false, eval e X.env) :: starEach es X.env := by rfl) (hpl : (backTo pos (starEach es X.env)).any (·.1) = false := by rfl) : PE X (.Call (.Name x p) (e :: es) [] pos) (tCall sp [] E0 t) := by
 obtain ⟨f, fd, m, kp, b, F⟩ := C
 exact m0_ F hr hg m kp b .nil pass0 ha hdb he hpl
theorem m4_ {i : Int} (hm : ∃ t, X.mg x = some (.int i t)) (hg : Gl X x) (hd : (x == ("__debug__" : Str)) = false := by decide) : PE X (.Name x pos) (tC (.int i)) := by
 obtain ⟨t, hm⟩ := hm
 exact i6_ hg hm ⟨t, rfl⟩ hd
end
theorem nZ_ {K : PySem.W.Frag} {mg : Str → Option Value} {h : Heap} (X : K.In h) (G : h.Ns mainGlobals mg) {x : Str} {i : Int} {t : Tok} (a : PySem.W.nsIn K mainGlobals x = some (some (.int i t))) : ∃ t, mg x = some (.int i t) := ⟨t, PySem.W.mg_of X G a⟩
theorem Same.upd {H H' : Hp} {a : Addr} {o : HO} (e : Same H H') (h : H a = none) : Same H (upd H' a o) := fun b o' q => by
 rw [af_ (ag_ q h)]
 exact e b o' q
theorem Same.new {H : Hp} {a : Addr} {o : HO} (h : H a = none) : Same H (L2.upd H a o) := (Same.refl H).upd h
end L2
namespace L2
open PySem PySem.Spec PyProof.Rows
def rIxTH : R2 := fun x y H Q => ∃ p xs i v, x = .ref p ∧ y = .int i ∧ H p = some (.tup xs) ∧ atI xs i = some v ∧ Q v H
def rIxLH : R2 := fun x y H Q => ∃ p xs i v, x = .ref p ∧ y = .int i ∧ H p = some (.lst xs) ∧ atI xs i = some v ∧ Q v H
theorem ao_ {X : Cx} : IxR X rIxTH := by
 intro value slice pins s σ H x y v u Q I rx ry h hs
 obtain ⟨p, xs, i, z, e1, e2, hp, ha, q⟩ := h
 exact mB_ value slice pins s σ H x y v u Q I rx ry ⟨p, xs, i, z, e1, e2, .inl (.inl hp), ha, q⟩ hs
theorem ah_ {X : Cx} : IxR X rIxLH := by
 intro value slice pins s σ H x y v u Q I rx ry h hs
 obtain ⟨p, xs, i, z, e1, e2, hp, ha, q⟩ := h
 exact k1_ value slice pins s σ H x y v u Q I rx ry ⟨p, xs, i, z, e1, e2, .inl (.inl hp), ha, q⟩ hs
def rEqTH : R2 := fun x y H Q => ∃ a b xs ys, x = .ref a ∧ y = .ref b ∧ H a = some (.tup xs) ∧ H b = some (.tup ys) ∧ xs.all flatV = true ∧ ys.all flatV = true ∧ Q (.bl (eqVs xs ys)) H
def rLenH : List V → Hp → VK → Prop := fun xs H Q => ∃ p ys, xs = [V.ref p] ∧ (H p = some (.lst ys) ∨ H p = some (.tup ys)) ∧ Q (.int ys.length) H
theorem am_ {X : Cx} : CallR X (.builtin "len") rLenH := by
 intro pins s σ H xs us Q I r h
 obtain ⟨p, ys, e, hp, q⟩ := h
 exact dx_ pins s σ H xs us Q I r ⟨p, ys, e, hp.imp (fun z => .inl (.inl z)) (fun z => .inl (.inl z)), q⟩
theorem gZ_ {X : Cx} {x : Str} {n : String} {pos : Pos} (hg : Gl X x) (hm : X.mg x = none) (hv : bootBuiltins x = some (.type n)) (hn : x ≠ "__name__" := by decide) (hd : (x == ("__debug__" : Str)) = false := by decide) : PE X (.Name x pos) (tC (.ty n)) :=
 mV_ hg hm hv rfl hn hd
theorem atI_0 {α : Type} {x : α} {xs : List α} : atI (x :: xs) 0 = some x := by simp [atI, ixN]
theorem atI_1 {α : Type} {x y : α} {xs : List α} : atI (x :: y :: xs) 1 = some y := by
 have h : (1 : Int) < (xs.length : Int) + 1 + 1 := by omega
 simp [atI, ixN, h]
theorem atI_2 {α : Type} {x y z : α} {xs : List α} : atI (x :: y :: z :: xs) 2 = some z := by
 have h : (2 : Int) < (xs.length : Int) + 1 + 1 + 1 := by omega
 simp [atI, ixN, h]
theorem b8_ {α : Type} {xs : List α} {i : Int} {v : α} (h0 : 0 ≤ i) (h : xs[i.toNat]? = some v) : atI xs i = some v := by
 have hl : i.toNat < xs.length := (List.getElem?_eq_some_iff.mp h).1
 have hl' : i < xs.length := by omega
 unfold atI ixN
 rw [if_pos h0, if_pos hl']
 exact h
theorem n0_ (n : Nat) : ixN (n + 1) 0 = some 0 := by
 have : (0 : Int) < (n : Int) + 1 := by omega
 simp [ixN, this]
theorem f1_ {c : TT} {tb : TS} {D : Ends} {σ : St} {H : Hp} (Pv : St → Hp → Prop) (μ : St → Hp → Nat) (h0 : Pv σ H)
  (hs : ∀ σ H, Pv σ H → c σ H fun b H1 => if b = true then ∃ N : St → Hp → Prop, (∀ σ' H', N σ' H' → ∃ m', m' < μ σ H ∧ m' = μ σ' H' ∧ Pv σ' H') ∧ tb { D with nx := N, ct := N, bk := D.nx } σ H1 else D.nx σ H1) : tWhile c tb D σ H :=
 ⟨fun m σ H => m = μ σ H ∧ Pv σ H, ⟨_, rfl, h0⟩, by rintro m σ H ⟨rfl, p⟩; exact hs σ H p⟩
theorem N_ok {Pv : St → Hp → Prop} {μ : St → Hp → Nat} {k : Nat} : ∀ σ' H', (Pv σ' H' ∧ μ σ' H' < k) → ∃ m', m' < k ∧ m' = μ σ' H' ∧ Pv σ' H' := fun _ _ ⟨a, b⟩ => ⟨_, b, rfl, a⟩
def ForGo (J : It) (g : TG) (tb : TS) (D : Ends) (σ : St) (H : Hp) : Prop := ∃ W : Nat → Nat → St → Hp → Prop, (∃ m, W 0 m σ H) ∧ ∀ i m σ H, W i m σ H →
 (J.stop i H ∧ D.nx σ H) ∨ (J.go i H ∧ ∃ N : St → Hp → Prop, (∀ σ' H', N σ' H' → ∃ m', m' < m ∧ W (i + 1) m' σ' H') ∧ ∀ x H', J.yld i H x H' → g x σ H' fun σ2 H2 => tb { D with nx := N, ct := N, bk := D.nx } σ2 H2)
theorem m5_ {wi : TI} {g : TG} {tb : TS} {D : Ends} {σ : St} {H : Hp} : tFor wi g tb D σ H = wi σ H fun J H1 => ForGo J g tb D σ H1 := rfl
theorem bK_ {lo : Int} {n : Nat} {g : TG} {tb : TS} {D : Ends} {σ : St} {H : Hp} (Pv : Nat → St → Hp → Prop) (h0 : Pv 0 σ H)
  (hs : ∀ i σ H, i < n → Pv i σ H → g (.int (lo + i)) σ H fun σ2 H2 => tb { D with nx := Pv (i + 1), ct := Pv (i + 1), bk := D.nx } σ2 H2) (hd : ∀ σ H, Pv n σ H → D.nx σ H) : ForGo (Itr lo n) g tb D σ H := kR_ Pv h0 hs hd
theorem i9_ {K : PySem.W.Frag} {a : Addr} {xs : List V} {g : TG} {tb : TS} {D : Ends} {σ : St} {H : Hp} (Pv : Nat → St → Hp → Prop) (h0 : Pv 0 σ H) (hl : ∀ i σ H, i ≤ xs.length → Pv i σ H → SqL K H a xs)
  (hs : ∀ i x σ H, xs[i]? = some x → Pv i σ H → g x σ H fun σ2 H2 => tb { D with nx := Pv (i + 1), ct := Pv (i + 1), bk := D.nx } σ2 H2) (hd : ∀ σ H, Pv xs.length σ H → D.nx σ H) : ForGo (Itl K a) g tb D σ H := lT_ Pv h0 hl hs hd
def notStar : Expr → Bool
 | .Starred .. => false
 | _ => true
theorem aC_ {e : Expr} {es : List Expr} {env : Env} (h : notStar e = true) : starEach (e :: es) env = (false, eval e env) :: starEach es env := by
 cases e <;> first | rfl | exact absurd (show false = true from h) Bool.false_ne_true
def plainArgs : List Expr → Bool
 | [] => true
 | e :: es => notStar e && plainArgs es
theorem bQ_ {pos : Pos} {env : Env} : ∀ {es : List Expr}, plainArgs es = true → (backTo pos (starEach es env)).any (·.1) = false
 | [], _ => rfl
 | e :: es, h => by
  have h' : notStar e = true ∧ plainArgs es = true := by simpa [plainArgs] using h
  rw [aC_ h'.1]
  show (false || (backTo pos (starEach es env)).any (·.1)) = false
  rw [bQ_ h'.2]
  rfl
def isComp : Expr → Bool
 | .ListComp .. => true
 | .SetComp .. => true
 | .DictComp .. => true
 | _ => false
theorem f2_ {e : Expr} {t : Option Expr} {n : Nat} {env : Env} (h : isComp e = false) : swapsWith e t n env = pure false := by
 cases e <;> first | rfl | exact absurd (show true = false from h) Bool.noConfusion
section
variable {X : Cx} {x : Str} {ps : List Str} {k : Nat} {sp : Sp} {e : Expr} {es : List Expr} {te : TE} {t : TA} {p pos : Pos} {id : String} {r : List V → Hp → VK → Prop}
theorem pa_c (ha : PE X e te) (hr : PA X es t) (hs : notStar e = true := by rfl) : PA X (e :: es) (tCons te t) := mZ_ ha hr (aC_ hs)
theorem aj_ (C : Cal X.prog X.w X.K X.mg X.base x ps k sp) (hr : Room k X.A) (hg : Gl X x) (ha : PA X (e :: es) t) (hs : plainArgs (e :: es) = true := by rfl) (hdb : (x == ("__debug__" : Str)) = false := by decide) :
  PE X (.Call (.Name x p) (e :: es) [] pos) (tCall sp [] E0 t) :=
 have h' : notStar e = true ∧ plainArgs es = true := by simpa [plainArgs] using hs
 lY_ C hr hg ha hdb (aC_ h'.1) (bQ_ h'.2)
theorem al_ (hc : CallR X (.builtin id) r) (hg : Gl X x) (hm : X.mg x = none) (hv : bootBuiltins x = some (.builtin id)) (ha : PA X (e :: es) t) (hs : plainArgs (e :: es) = true := by rfl) (hn : x ≠ "__name__" := by decide) (hdb : (x == ("__debug__" : Str)) = false := by decide) :
  PE X (.Call (.Name x p) (e :: es) [] pos) (tCB r t) :=
 have h' : notStar e = true ∧ plainArgs es = true := by simpa [plainArgs] using hs
 lU_ hc hg hm hv ha hn hdb (aC_ h'.1) (bQ_ h'.2)
theorem ai_ {i : Nat} {pos' : Pos} (hN : X.N.Nodup) (hi : X.N[i]? = some x) (hx : X.env.scope.names.lookup x = some .local) (he : PE X e te) (hs : isComp e = false := by rfl) : PS X (.Assign [.Name x pos'] e pos) (tAsg te (gName i)) :=
 mx_ hN hi (.inl hx) he (f2_ hs) (.inr hx)
theorem ak_ {i : Nat} (hN : X.N.Nodup) (hi : X.N[i]? = some x) (hx : X.env.scope.names.lookup x = some .local) : PG X (.Name x pos) (gName i) := kN_ hN hi (.inl hx) (.inr hx)
theorem bv_ (he : PE X e te) (hs : isComp e = false := by rfl) : PS X (.Expr e pos) (tDrop te) := mX_ he (f2_ hs)
theorem pv1 (i : Nat) (hN : X.N[i]? = some x := by rfl) (hv : X.env.scope.names.lookup x = some .local := by rfl) (hd : (x == ("__debug__" : Str)) = false := by decide) (hcd : (x == ("__classdict__" : Str)) = false := by decide) : PE X (.Name x pos) (tVar i) := kJ_ hN (.inl hv) hd hcd
end
def tCut (t : TS) : TS := fun D σ H => ∃ M : St → Hp → Prop, t { D with nx := M } σ H ∧ ∀ σ' H', M σ' H' → D.nx σ' H'
theorem g0_ {X : Cx} {st : Stmt} {t : TS} (h : PS X st t) : PS X st (tCut t) := by
 intro pins s σ H D I hq
 obtain ⟨M, h1, h2⟩ := hq
 refine thn (h pins s σ H _ I h1) fun f s' q => ?_
 cases f with
 | next => obtain ⟨σ', H', I', m⟩ := q; exact ⟨σ', H', I', h2 _ _ m⟩
 | brk => exact q
 | cont => exact q
 | ret u => exact q
theorem aQ_ : bootBuiltins "len" = some (.builtin "len") := by decide +kernel
theorem k4_ : bootBuiltins "abs" = some (.builtin "abs") := by decide +kernel
theorem n1_ : bootBuiltins "max" = some (.builtin "max") := by decide +kernel
theorem n2_ : bootBuiltins "min" = some (.builtin "min") := by decide +kernel
theorem aV_ : bootBuiltins "isinstance" = some (.builtin "isinstance") := by decide +kernel
theorem ib_ : bootBuiltins "sorted" = some (.builtin "sorted") := by decide +kernel
theorem k5_ : bootBuiltins "int" = some (.type "int") := by decide +kernel
theorem m6_ : bootBuiltins "bool" = some (.type "bool") := by decide +kernel
theorem lZ_ : bootBuiltins "tuple" = some (.type "tuple") := by decide +kernel
theorem e5_ : bootBuiltins "list" = some (.type "list") := by decide +kernel
theorem ic_ : bootBuiltins "enumerate" = some (.type "enumerate") := by decide +kernel
end L2
namespace L2
open PySem PySem.Spec PyProof.Rows
def clOf (cells : List (Str × Addr)) : List (Str × NameKind) → List (Str × Addr) → List (Str × Addr)
 | [], acc => acc
 | (n, k) :: r, acc => if k == .free then clOf cells r ((n, (cells.lookup n).getD 0) :: acc) else clOf cells r acc
theorem kp_ {env : Env} : ∀ (names : List (Str × NameKind)) (acc : List (Str × Addr)), (∀ p ∈ names, p.2 = .free → ∃ c, env.cells.lookup p.1 = some c) →
  (forIn (m := Sem) names acc fun x r => (match x with | (name, kind) => if (kind == NameKind.free) = true then do let a ← cellOf env name; pure (ForInStep.yield ((name, a) :: r)) else pure (ForInStep.yield r))) = pure (clOf env.cells names acc) := by
 intro names
 induction names with
 | nil => intro acc _; rfl
 | cons p r ih =>
  intro acc h
  obtain ⟨n, k⟩ := p
  rw [List.forIn_cons]
  by_cases hk : (k == NameKind.free) = true
  ·obtain ⟨c, hc⟩ := h (n, k) List.mem_cons_self (by simpa using hk)
   have e1 : cellOf env n = pure c := by unfold cellOf; rw [hc]
   simp only [hk, if_true, e1]
   have := ih ((n, c) :: acc) fun p hp => h p (List.mem_cons_of_mem _ hp)
   show _ = pure (clOf env.cells ((n, k) :: r) acc)
   rw [clOf, if_pos hk, hc]
   exact this
  ·simp only [hk]
   have := ih acc fun p hp => h p (List.mem_cons_of_mem _ hp)
   show _ = pure (clOf env.cells ((n, k) :: r) acc)
   rw [clOf, if_neg hk]
   exact this
theorem g1_ {scope : Scope} {env : Env} (h : ∀ p ∈ scope.names, p.2 = .free → ∃ c, env.cells.lookup p.1 = some c) : closureFor scope env = pure (clOf env.cells scope.names []) := by
 unfold closureFor
 exact Eq.trans (congrArg (fun z => z >>= fun s => pure s) (kp_ (env := env) scope.names [] h)) rfl
theorem ho_ {cells : List (Str × Addr)} : ∀ (names : List (Str × NameKind)) (acc : List (Str × Addr)), (∀ p ∈ names, p.2 = .free → ∃ c, cells.lookup p.1 = some c) → (∀ q ∈ acc, cells.lookup q.1 = some q.2) → ∀ q ∈ clOf cells names acc, cells.lookup q.1 = some q.2
 | [], acc, _, h => h
 | (n, k) :: r, acc, h1, h2 => by
  rw [clOf]
  by_cases hk : (k == NameKind.free) = true
  ·rw [if_pos hk]
   refine ho_ r _ (fun p hp => h1 p (List.mem_cons_of_mem _ hp)) fun q hq => ?_
   rcases List.mem_cons.mp hq with rfl | hq
   ·obtain ⟨c, hc⟩ := h1 (n, k) List.mem_cons_self (by simpa using hk)
    rw [hc]
    rfl
   ·exact h2 q hq
  ·rw [if_neg hk]
   exact ho_ r _ (fun p hp => h1 p (List.mem_cons_of_mem _ hp)) h2
theorem hp_ {cells : List (Str × Addr)} {x : Str} : ∀ (names : List (Str × NameKind)) (acc : List (Str × Addr)), ((x, NameKind.free) ∈ names ∨ ∃ c, (x, c) ∈ acc) → ∃ c, (x, c) ∈ clOf cells names acc
 | [], acc, h => h.elim (fun z => absurd z (by simp)) id
 | (n, k) :: r, acc, h => by
  rw [clOf]
  by_cases hk : (k == NameKind.free) = true
  ·rw [if_pos hk]
   refine hp_ r _ ?_
   rcases h with h | ⟨c, hc⟩
   ·rcases List.mem_cons.mp h with e | h
    ·cases e
     exact .inr ⟨_, List.mem_cons_self⟩
    ·exact .inl h
   ·exact .inr ⟨c, List.mem_cons_of_mem _ hc⟩
  ·rw [if_neg hk]
   refine hp_ r _ ?_
   rcases h with h | h
   ·rcases List.mem_cons.mp h with e | h
    ·cases e
     exact absurd rfl hk
    ·exact .inl h
   ·exact .inr h
theorem cr_ {x : Str} {c : Addr} : ∀ {l : List (Str × Addr)}, (x, c) ∈ l → ∃ c', l.lookup x = some c'
 | (n, d) :: r, h => by
  rw [List.lookup_cons]
  cases e : x == n with
  | true => exact ⟨d, rfl⟩
  | false =>
   rcases List.mem_cons.mp h with z | h
   ·cases z
    simp at e
   ·exact cr_ h
theorem f3_ {cells : List (Str × Addr)} {q : Str × Addr} : ∀ (names : List (Str × NameKind)) (acc : List (Str × Addr)), q ∈ clOf cells names acc → (q.1, NameKind.free) ∈ names ∨ q ∈ acc
 | [], acc, h => .inr h
 | (n, k) :: r, acc, h => by
  rw [clOf] at h
  by_cases hk : (k == NameKind.free) = true
  ·rw [if_pos hk] at h
   have hk' : k = .free := by simpa using hk
   rcases f3_ r _ h with h | h
   ·exact .inl (List.mem_cons_of_mem _ h)
   ·rcases List.mem_cons.mp h with rfl | h
    ·exact .inl (by rw [hk']; exact List.mem_cons_self)
    ·exact .inr h
  ·rw [if_neg hk] at h
   exact (f3_ r _ h).imp (List.mem_cons_of_mem _) id
theorem cB_ {x : Str} {c : Addr} : ∀ (names : List (Str × NameKind)) (h : Heap) (acc : List (Str × Addr)), (x, c) ∈ cellsFrom h.objs.size names acc → (x, c) ∈ acc ∨ (h.objs.size ≤ c ∧ (pushCells h names).IsCell c none ∧ (x, NameKind.cell) ∈ names)
 | [], _, _, h => .inl h
 | (n, k) :: r, hp, acc, h => by
  unfold cellsFrom at h
  unfold pushCells
  by_cases hk : (k == NameKind.cell) = true
  ·rw [if_pos hk] at h ⊢
   have hk' : k = .cell := by simpa using hk
   have h' : (x, c) ∈ cellsFrom (hp.push { cls := .type "cell", data := .cell none }).objs.size r ((n, hp.objs.size) :: acc) := by rw [Heap.size_push]; exact h
   rcases cB_ r _ _ h' with h | ⟨h1, h2, h3⟩
   ·rcases List.mem_cons.mp h with e | h
    ·cases e
     exact .inr ⟨Nat.le_refl _, ⟨_, pushCells_keeps r _ _ _ (Heap.get?_push_size _ rfl), rfl⟩, by rw [hk']; exact List.mem_cons_self⟩
    ·exact .inl h
   ·rw [Heap.size_push] at h1
    exact .inr ⟨by omega, h2, List.mem_cons_of_mem _ h3⟩
  ·rw [if_neg hk] at h ⊢
   exact (cB_ r hp acc h).imp id fun ⟨h1, h2, h3⟩ => ⟨h1, h2, List.mem_cons_of_mem _ h3⟩
theorem cW_ {x : Str} : ∀ (names : List (Str × NameKind)) (n : Nat) (acc : List (Str × Addr)), ((x, NameKind.cell) ∈ names ∨ ∃ c, (x, c) ∈ acc) → ∃ c, (x, c) ∈ cellsFrom n names acc
 | [], _, acc, h => h.elim (fun z => absurd z (by simp)) id
 | (y, k) :: r, n, acc, h => by
  unfold cellsFrom
  by_cases hk : (k == NameKind.cell) = true
  ·rw [if_pos hk]
   refine cW_ r _ _ ?_
   rcases h with h | ⟨c, hc⟩
   ·rcases List.mem_cons.mp h with e | h
    ·cases e
     exact .inr ⟨_, List.mem_cons_self⟩
    ·exact .inl h
   ·exact .inr ⟨c, List.mem_cons_of_mem _ hc⟩
  ·rw [if_neg hk]
   refine cW_ r _ _ ?_
   rcases h with h | h
   ·rcases List.mem_cons.mp h with e | h
    ·cases e
     exact absurd rfl hk
    ·exact .inl h
   ·exact .inr h
theorem cX_ {lo : Nat} : ∀ (names : List (Str × NameKind)) (n : Nat) (acc : List (Str × Addr)), (∀ x c, (x, c) ∈ acc → c < n) → (∀ x y c, lo ≤ c → (x, c) ∈ acc → (y, c) ∈ acc → x = y) → ∀ x y c, lo ≤ c → (x, c) ∈ cellsFrom n names acc → (y, c) ∈ cellsFrom n names acc → x = y
 | [], _, _, _, h => h
 | (z, k) :: r, n, acc, h1, h2 => by
  unfold cellsFrom
  by_cases hk : (k == NameKind.cell) = true
  ·rw [if_pos hk]
   refine cX_ r _ _ (fun x c hm => ?_) fun x y c hc hx hy => ?_
   ·rcases List.mem_cons.mp hm with e | hm
    ·cases e; exact Nat.lt_succ_self _
    ·exact Nat.lt_succ_of_lt (h1 x c hm)
   ·rcases List.mem_cons.mp hx with e | hx <;> rcases List.mem_cons.mp hy with e' | hy
    ·cases e; cases e'; rfl
    ·cases e; exact absurd (h1 _ _ hy) (Nat.lt_irrefl _)
    ·cases e'; exact absurd (h1 _ _ hx) (Nat.lt_irrefl _)
    ·exact h2 x y c hc hx hy
  ·rw [if_neg hk]
   exact cX_ r n acc h1 h2
def blkCells (scope : Scope) (env : Env) (n : Nat) : List (Str × Addr) := cellsFrom (n + 1) scope.names (clOf env.cells scope.names [])
def cxC (X : Cx) (N' : List Str) (scope : Scope) (s : Shared) (H : Hp) (ex : List Addr) : Cx :=
 { X with N := N', s₀ := s, H₀ := H, env := compEnvC scope (blkCells scope X.env s.heap.objs.size) s.heap.objs.size X.env, outer := X.stack, ex := ex, fn := fun x => decide ((x, NameKind.cell) ∈ scope.names), pn := [] }
def pick (σ : St) (ix : List (Option Nat)) : St := ix.map fun o => match o with | some i => (match σ[i]? with | some v => v | none => none) | none => none
structure Scp (psc : Scope) (PN N' : List Str) (ix : List (Option Nat)) (scope : Scope) : Prop where
 kind : scope.kind = .function
 names : ∀ x ∈ scope.names, x.2 = .local → scope.names.lookup x.1 = some .local
 uni : ∀ x ∈ scope.names, x.2 = .free → scope.names.lookup x.1 = some .free
 apart : ∀ x ∈ scope.names, x.2 = .cell → (x.1, NameKind.free) ∉ scope.names
 free : ∀ x ∈ scope.names, x.2 = .free → psc.names.lookup x.1 = some .cell ∨ psc.names.lookup x.1 = some .free
 len : ix.length = N'.length
 at_ : ∀ (j i : Nat) (x : Str), N'[j]? = some x → ix[j]? = some (some i) → PN[i]? = some x ∧ (x, NameKind.free) ∈ scope.names
section
variable {X : Cx} {pins : List (Addr × Obj)} {σ : St} {H : Hp} {s : Shared} {N' : List Str} {ix : List (Option Nat)} {scope : Scope} {fp : List Addr}
theorem cs_ {env : Env} : ∀ {names : List (Str × NameKind)} {x : Str}, names.lookup x = some .free →
  (names.map fun (n, k) => if (k == NameKind.free && env.scope.kind == .function && env.kindOf n == some .cell) then (n, NameKind.cell) else (n, k)).lookup x = some .cell ∨
  (names.map fun (n, k) => if (k == NameKind.free && env.scope.kind == .function && env.kindOf n == some .cell) then (n, NameKind.cell) else (n, k)).lookup x = some .free
 | [], _, h => by simp at h
 | (n, k) :: r, x, h => by
  have ih := @cs_ env r x
  simp only [List.map_cons]
  cases hx : x == n with
  | true =>
   simp only [List.lookup_cons, hx] at h
   cases h
   by_cases hc : (NameKind.free == NameKind.free && env.scope.kind == .function && env.kindOf n == some .cell) = true
   ·rw [if_pos hc]; simp [List.lookup_cons, hx]
   ·rw [if_neg hc]; simp [List.lookup_cons, hx]
  | false =>
   simp only [List.lookup_cons, hx] at h
   by_cases hc : (k == NameKind.free && env.scope.kind == .function && env.kindOf n == some .cell) = true
   ·rw [if_pos hc]; simp only [List.lookup_cons, hx]; exact ih h
   ·rw [if_neg hc]; simp only [List.lookup_cons, hx]; exact ih h
theorem f4_ {scope : Scope} {env : Env} {x : Str} (h : scope.names.lookup x = some .free) : (relabel scope env).names.lookup x = some .cell ∨ (relabel scope env).names.lookup x = some .free := cs_ h
theorem id_ {scope : Scope} {env : Env} {x : Str} (h : (relabel scope env).names.lookup x = some .cell ∨ (relabel scope env).names.lookup x = some .free) : (x, NameKind.cell) ∈ scope.names ∨ (x, NameKind.free) ∈ scope.names := by
 have : ∃ k, (x, k) ∈ (relabel scope env).names ∧ (k = .cell ∨ k = .free) := by
  rcases h with h | h
  ·exact ⟨_, PySem.mem_of_lookup h, .inl rfl⟩
  ·exact ⟨_, PySem.mem_of_lookup h, .inr rfl⟩
 obtain ⟨k, hm, hk⟩ := this
 obtain ⟨⟨n, k'⟩, hm', e⟩ := List.mem_map.mp hm
 dsimp only at e
 split at e
 ·rename_i hc
  cases e
  have : k' = .free := by simp at hc; exact hc.1.1
  rw [this] at hm'
  exact .inr hm'
 ·cases e
  rcases hk with rfl | rfl
  ·exact .inl hm'
  ·exact .inr hm'
theorem l0_ (I : Inv X pins σ H s) (S : Scp X.env.scope X.N N' ix scope) (hf : ∀ b ∈ fp, FpOk X pins H b) (hfl : ∀ b ∈ fp, b < s.heap.objs.size) (t' : Nat) :
  Inv (cxC X N' scope s H fp) [] (pick σ ix) H { s with heap := pushCells (s.heap.push { cls := .type "dict", data := .dict #[] }) scope.names, toks := t' } := by
 have hn : (pushCells (s.heap.push { cls := .type "dict", data := .dict #[] }) scope.names).Ns s.heap.objs.size fun _ => none := (Heap.Ns.new s.heap (.type "dict")).keeps (pushCells_keeps _ _)
 have hk : ∀ b o, s.heap.get? b = some o → (pushCells (s.heap.push { cls := .type "dict", data := .dict #[] }) scope.names).get? b = some o := fun b o e => pushCells_keeps _ _ b o (Heap.get?_push_of_some _ e)
 have hfr : ∀ p ∈ scope.names, p.2 = NameKind.free → ∃ c, X.env.cells.lookup p.1 = some c := fun p hp e => I.ok.has p.1 (S.free p hp e)
 have clm : ∀ q ∈ clOf X.env.cells scope.names [], X.env.cells.lookup q.1 = some q.2 := ho_ scope.names [] hfr (by simp)
 have spec : ∀ x c, (blkCells scope X.env s.heap.objs.size).lookup x = some c → (X.env.cells.lookup x = some c ∧ (x, NameKind.free) ∈ scope.names) ∨
   (s.heap.objs.size < c ∧ (pushCells (s.heap.push { cls := .type "dict", data := .dict #[] }) scope.names).IsCell c none ∧ (x, NameKind.cell) ∈ scope.names) := fun x c e => by
  have hm : (x, c) ∈ cellsFrom (s.heap.push { cls := .type "dict", data := .dict #[] }).objs.size scope.names (clOf X.env.cells scope.names []) := by rw [Heap.size_push]; exact PySem.mem_of_lookup e
  rcases cB_ scope.names _ _ hm with h | ⟨h1, h2, h3⟩
  ·exact .inl ⟨clm _ h, (f3_ scope.names [] h).elim id (fun z => absurd z (by simp))⟩
  ·rw [Heap.size_push] at h1
   exact .inr ⟨h1, h2, h3⟩
 have hasC : ∀ x, ((relabel scope X.env).names.lookup x = some .cell ∨ (relabel scope X.env).names.lookup x = some .free) → ∃ c, (blkCells scope X.env s.heap.objs.size).lookup x = some c := fun x hx => by
  have : ∃ c, (x, c) ∈ blkCells scope X.env s.heap.objs.size := cW_ scope.names _ _ ((id_ hx).imp id fun z => hp_ scope.names [] (.inl z))
  obtain ⟨c, hc⟩ := this
  exact cr_ hc
 have cold : ∀ x c, X.env.cells.lookup x = some c → c < s.heap.objs.size := fun x c e => let ⟨v, q⟩ := I.cell x c e; q.lt
 refine ⟨⟨I.ok.mod, S.kind, I.ok.glob, I.ok.blt, Nat.le_refl _, fun x y c e1 e2 => ?_, hasC, fun x c z e => ?_, I.ok.hd, I.ok.frames, .inl rfl,
  fun b hb => ⟨Nat.ne_of_lt (hfl b hb), fun x c e => ?_⟩, I.bs, Nat.le_trans I.ok.bsz I.sz, fun b o e hb => ?_, fun b hb z => ?_, I.stack, I.stkFree⟩,
  rfl, I.bare, Un.kept hk, ⟨_, hn, fun j x v e1 e2 e3 => ?_⟩, fun x c e => ?_, I.hok.fresh (Nat.le_refl _), fun x c e => ?_, fun p hp => absurd (show p ∈ ([] : List (Addr × Obj)) from hp) (by simp), I.hok.kept hk, ?_⟩
 ·by_cases hc : c < s.heap.objs.size + 1
  ·rcases spec x c e1 with ⟨q1, _⟩ | ⟨q1, _⟩
   ·rcases spec y c e2 with ⟨q2, _⟩ | ⟨q2, _⟩
    ·exact I.ok.inj x y c q1 q2
    ·exact absurd q2 (Nat.not_lt.mpr (Nat.le_of_lt_succ hc))
   ·exact absurd q1 (Nat.not_lt.mpr (Nat.le_of_lt_succ hc))
  ·exact cX_ (lo := s.heap.objs.size + 1) scope.names _ _ (fun x c hm => Nat.lt_succ_of_lt (cold x c (clm _ hm))) (fun x y c hc hx _ => absurd (cold x c (clm _ hx)) (Nat.not_lt.mpr (Nat.le_trans (Nat.le_succ _) hc))) x y c (Nat.not_lt.mp hc) (PySem.mem_of_lookup e1) (PySem.mem_of_lookup e2)
 ·have z' : (x, NameKind.cell) ∈ scope.names := of_decide_eq_true z
  rcases spec x c e with ⟨_, q⟩ | ⟨q, _⟩
  ·exact absurd q (S.apart _ z' rfl)
  ·exact Nat.le_of_lt q
 ·rcases spec x c e with ⟨q, _⟩ | ⟨q, _⟩
  ·exact (hf b hb).2.2.2.2.1 x c q
  ·exact fun z => absurd (hfl b hb) (Nat.not_lt.mpr (z ▸ Nat.le_of_lt q))
 ·exact (hf b hb).2.2.2.1.elim (fun z => I.ok.noex b o e z) fun z => absurd (Nat.lt_of_lt_of_le (Heap.lt_size e) I.ok.bsz) (Nat.not_lt.mpr z)
 ·have hb2 := hf b hb
  rcases List.mem_cons.mp (I.stkSub b z) with q | q
  ·exact hb2.2.1 q
  ·exact hb2.2.2.1 q
 ·have e4 : ∃ i, ix[j]? = some (some i) ∧ σ[i]? = some (some v) := by
   have e2' : (pick σ ix)[j]? = some (some v) := e2
   unfold pick at e2'
   rw [List.getElem?_map] at e2'
   cases q : ix[j]? with
   | none => rw [q] at e2'; cases e2'
   | some o =>
    rw [q] at e2'
    cases o with
    | none => cases e2'
    | some i =>
     refine ⟨i, rfl, ?_⟩
     cases z : σ[i]? with
     | none => simp [z] at e2'
     | some y => simp [z] at e2'; rw [e2']
  obtain ⟨i, e4, e5⟩ := e4
  obtain ⟨a1, a2⟩ := S.at_ j i x e1 e4
  have a3 := S.free _ a2 rfl
  obtain ⟨m0, hn0, hl0⟩ := I.loc
  obtain ⟨u, r, l⟩ := hl0 i x v a1 e5 (.inr a3)
  refine ⟨u, r, ?_⟩
  rcases l with ⟨k1, _⟩ | ⟨k1, c, hcl, hce⟩
  ·have k1' : X.env.scope.names.lookup x = some .local := k1
   rcases a3 with z | z <;> (rw [k1'] at z; cases z)
  ·-- the name is captured here
   have e3' : (relabel scope X.env).names.lookup x = some .local ∨ (relabel scope X.env).names.lookup x = some .cell ∨ (relabel scope X.env).names.lookup x = some .free := e3
   have k3 := f4_ (env := X.env) (S.uni _ a2 rfl)
   obtain ⟨c', hc'⟩ := hasC x k3
   rcases spec x c' hc' with ⟨q, _⟩ | ⟨_, _, q⟩
   ·rw [hcl] at q
    cases q
    exact .inr ⟨k3, c, hc', hce.keeps hk⟩
   ·exact absurd a2 (S.apart _ q rfl)
 ·rcases spec x c e with ⟨q, _⟩ | ⟨q, q2, _⟩
  ·obtain ⟨v, q'⟩ := I.cell x c q
   exact ⟨v, q'.keeps hk⟩
  ·exact ⟨none, q2⟩
 ·rcases spec x c e with ⟨q, _⟩ | ⟨q, _⟩
  ·exact I.freeC x c q
  ·exact I.hok.fresh (Nat.le_of_lt q)
 ·show (pick σ ix).length = N'.length
  unfold pick
  rw [List.length_map]
  exact S.len
end
section
variable {prog : Program} {w : World} {A : Around} {R : Result → Shared → Prop} {s : Shared}
def testsOf (ifs : List Expr) (env : Env) : Sem Bool := forIn ifs true fun c r => if r = true then do let ok ← isTrue c env (eval c env); pure (ForInStep.yield ok) else pure (ForInStep.yield r)
theorem ie_ {elt target iter : Expr} {ifs : List Expr} {scope : Scope} {pos : Pos} {it acc : Value} {env : Env} (I : Nat → Shared → Prop)
  (turn : ∀ n s, I n s → wpAny (model prog w) A (pyNext it) (fun r s₁ => match r with
   | none => R (.ok .next) s₁
   | some v => wpAny (model prog w) A (letOwnedTupleGo target it v) (fun _ s₁' => wpAny (model prog w) A (assign target env v) (fun _ s₂ => wpAny (model prog w) A (testsOf ifs env) (fun ok s₃ =>
     if ok = true then wpAny (model prog w) A (eval elt env) (fun x s₄ => wpAny (model prog w) A (call (.builtin "list.append") [acc, x]) (fun _ s₅ => ∃ m, m < n ∧ I m s₅) (fun _ _ => False) s₄) (fun _ _ => False) s₃
     else ∃ m, m < n ∧ I m s₃) (fun _ _ => False) s₂) (fun _ _ => False) s₁') (fun _ _ => False) s₁) (fun _ _ => False) s)
  (n : Nat) (h : I n s) : codeAny (model prog w) A (.compLoop (.ListComp elt [⟨target, iter, ifs, 0⟩] scope pos) 0 it acc env) R s := by
 refine codeAny_loop rfl I (fun n s hI => ?_) n h
 show wpAny _ _ ((compTurn (.ListComp elt [⟨target, iter, ifs, 0⟩] scope pos) 0 it acc env).onRaise (fun x => do noteFrame x env; theTreesLotGoes x)) _ _ s
 refine wpAny_noted ?_
 rw [compTurn_list]
 refine wpAny_bind (wpAny_standAt (wpAny_bind (wpAny_mono (turn n s hI) (fun r s₁ h₁ => ?_) fun _ _ h' => h'.elim)))
 cases r with
 | none => exact wpAny_pure h₁
 | some v =>
  refine wpAny_bind (wpAny_mono h₁ (fun _ s₁' h₁' => ?_) fun _ _ h' => h'.elim)
  refine wpAny_bind (wpAny_mono h₁' (fun _ s₂ h₂ => wpAny_bind (wpAny_mono h₂ (fun ok s₃ h₃ => ?_) fun _ _ h' => h'.elim)) fun _ _ h' => h'.elim)
  cases ok with
  | false => exact wpAny_pure ⟨rfl, h₃⟩
  | true =>
   exact wpAny_bind (wpAny_bind (wpAny_mono h₃ (fun x s₄ h₄ => wpAny_bind (wpAny_mono h₄ (fun _ s₅ h₅ => wpAny_pure (wpAny_pure ⟨rfl, h₅⟩)) fun _ _ h' => h'.elim)) fun _ _ h' => h'.elim))
end
theorem ja_ {M : Model} {A : Around} {E : Value → Shared → Prop} {s : Shared} {scope : Scope} {globals : Addr} {cl : List (Str × Addr)} {qual : Str} {env : Env} {Q : Env → Shared → Prop}
  (hQ : Q { scope := scope, locals := s.heap.objs.size, globals := globals, cells := cellsFrom (s.heap.objs.size + 1) scope.names cl, qual := qual, func := none, code := env.code, frame := env.frame, builtins := env.builtins } { s with heap := pushCells (s.heap.push { cls := .type "dict", data := .dict #[] }) scope.names }) :
  wpAny M A (newFunctionEnv scope globals cl [] qual none .none (some env)) Q E s := by
 simp only [newFunctionEnv, Option.isSome_some, if_true]
 refine wpAny_bind (wpAny_alloc ?_)
 refine wpAny_bind (wpAny_layCells _ (fun name kind cells => by cases hkc : kind == NameKind.cell <;> simp [hkc]) _ _ _ _ ?_)
 rw [show ({ s with heap := s.heap.push { cls := .type "dict", data := .dict #[] } } : Shared).heap.objs.size = s.heap.objs.size + 1 from Heap.size_push ..]
 exact wpAny_bind (wpAny_pure (wpAny_pure hQ))
def PF (X : Cx) (ifs : List Expr) (t : TT) : Prop :=
 ∀ (pins : List (Addr × Obj)) (s : Shared) (σ : St) (H : Hp) (Q : Bool → Hp → Prop), Inv X pins σ H s → t σ H Q → wpAny (model X.prog X.w) X.A (testsOf ifs X.env) (TP X pins σ Q) X.xe s
def tYes : TT := fun _ H Q => Q true H
theorem ct_ {X : Cx} : PF X [] tYes := fun _ _ _ H _ I h => wpAny_tests_nil ⟨H, I, h⟩
theorem k6_ {X : Cx} {c : Expr} {t : TT} (h : PT X c t) : PF X [c] t := fun pins s σ H Q I q => wpAny_tests_one (h pins s σ H Q I q)
def CompGo (J : It) (g : TG) (tt : TT) (te : TE) (σ : St) (H : Hp) (Q : VK) : Prop := ∀ D, H D = none → ∃ W : Nat → Nat → St → Hp → Prop, (∃ m, W 0 m σ (upd H D (.lst []))) ∧ ∀ i m σ H, W i m σ H →
 (J.stop i H ∧ Q (.ref D) H) ∨ (J.go i H ∧ ∃ N : St → Hp → Prop, (∀ σ' H', N σ' H' → ∃ m', m' < m ∧ W (i + 1) m' σ' H') ∧ ∀ x H', J.yld i H x H' → g x σ H' fun σ2 H2 => tt σ2 H2 fun b H3 =>
  if b = true then te σ2 H3 fun v H4 => ∃ xs, H4 D = some (.lst xs) ∧ xs.length < sizeLine ∧ N σ2 (upd H4 D (.lst (xs ++ [v]))) else N σ2 H3)
def tComp (ix : List (Option Nat)) (wi : TI) (g : TG) (tt : TT) (te : TE) : TE := fun σ H Q => wi σ H fun J H1 => CompGo J g tt te (pick σ ix) H1 Q
section
variable {X : Cx} {N' : List Str} {ix : List (Option Nat)} {scope : Scope} {tg iter elt : Expr} {ifs : List Expr} {wi : TI} {g : TG} {tt : TT} {te : TE} {pos : Pos}
theorem if_ (hc : X.calm = true) (hxe : X.xe = fun _ _ => False) (S : Scp X.env.scope X.N N' ix scope) (hi : PI X tg iter wi) (hg : ∀ s H ex, PG (cxC X N' scope s H ex) tg g) (ht : ∀ s H ex, PF (cxC X N' scope s H ex) ifs tt) (he : ∀ s H ex, PE (cxC X N' scope s H ex) elt te)
  {pins : List (Addr × Obj)} {s : Shared} {σ : St} {H : Hp} {Q : VK} (I : Inv X pins σ H s) (h : tComp ix wi g tt te σ H Q) {Post : Value → Addr → Result → Shared → Prop}
  (fin' : ∀ (D C : Addr) (H' : Hp) (s' : Shared), Inv X pins σ H' s' → FpOk X pins H' C → (∃ m, s'.heap.Ns C m) → Q (.ref D) H' → Post (.ref D) C (.ok .next) s') :
  wpAny (model X.prog X.w) X.A (eval iter X.env) (fun x s₁ => wpAny (model X.prog X.w) X.A (pyIter x) (fun it s₂ => wpAny (model X.prog X.w) X.A (newList []) (fun acc s₃ =>
   wpAny (model X.prog X.w) X.A (newFunctionEnv scope X.env.globals (clOf X.env.cells scope.names []) [] X.env.qual none .none (some X.env)) (fun cenv s₄ =>
    codeAny (model X.prog X.w) X.A (.compStart (.ListComp elt [⟨tg, iter, ifs, 0⟩] scope pos) 0 it acc { cenv with scope := relabel scope X.env }) (Post acc cenv.locals) s₄) X.xe s₃) X.xe s₂) X.xe s₁) X.xe s := by
 refine thn (hi pins s σ H _ I h) fun v s1 h1 => thn h1 fun itv s2 h2 => ?_
 obtain ⟨it, fp, tn, J, H2, e, I2, T, st2, f2, go⟩ := h2
 subst e
 refine wpAny_newObj_type ?_
 have hD : H2 s2.heap.objs.size = none := I2.hok.fresh (Nat.le_refl _)
 have I3 : Inv X pins σ (upd H2 s2.heap.objs.size (.lst [])) { s2 with heap := s2.heap.push { cls := .type "list", dict := none, data := .seq ([] : List Value).toArray } } :=
  I2.laid (t' := s2.toks) (fun b u e => Heap.get?_push_of_some _ e) (Nat.le_refl _) ⟨Nat.zero_le _, [], 0, .nil, Heap.get?_push_size _ rfl⟩
 obtain ⟨W, ⟨m0, w0⟩, turn⟩ := go s2.heap.objs.size hD
 have fpl : ∀ b ∈ fp, b < s2.heap.objs.size := fun b hb => let ⟨o, e, _⟩ := T.obj _ _ st2 b hb; Heap.lt_size e
 have tF : ∀ {α : Type} {t : Sem α} {Q' : α → Shared → Prop} {s' : Shared}, wpAny (model X.prog X.w) X.A t Q' X.xe s' → wpAny (model X.prog X.w) X.A t Q' (fun _ _ => False) s' := fun hw => hxe ▸ hw
 generalize hH3 : upd H2 s2.heap.objs.size (.lst []) = H3 at I3 w0
 generalize hs3 : ({ s2 with heap := s2.heap.push { cls := .type "list", dict := none, data := .seq ([] : List Value).toArray } } : Shared) = s3 at I3 ⊢
 have h23 : ∀ b o, s2.heap.get? b = some o → s3.heap.get? b = some o := fun b o e => by rw [← hs3]; exact Heap.get?_push_of_some _ e
 have sz3 : s2.heap.objs.size ≤ s3.heap.objs.size := by rw [← hs3]; show _ ≤ (s2.heap.push _).objs.size; rw [Heap.size_push]; exact Nat.le_succ _
 have fpl3 : ∀ b ∈ fp, b < s3.heap.objs.size := fun b hb => Nat.lt_of_lt_of_le (fpl b hb) sz3
 have f3 : ∀ b ∈ fp, FpOk X pins H3 b := fun b hb => ⟨by rw [← hH3, af_ (Nat.ne_of_lt (fpl b hb))]; exact (f2 b hb).1, (f2 b hb).2⟩
 refine ja_ ?_
 generalize hh1 : pushCells (s3.heap.push { cls := .type "dict", data := .dict #[] }) scope.names = h1
 have hk : ∀ b o, s3.heap.get? b = some o → h1.get? b = some o := fun b o e => by rw [← hh1]; exact pushCells_keeps _ _ b o (Heap.get?_push_of_some _ e)
 have I4 : Inv (cxC X N' scope s3 H3 fp) [] (pick σ ix) H3 { s3 with heap := h1 } := by rw [← hh1]; exact l0_ I3 S f3 fpl3 s3.toks
 have st4 : tn 0 h1 := T.keep _ _ _ st2 fun b hb o e => hk b o (h23 b o e)
 have fin : ∀ {σ' : St} {H' : Hp} {s' : Shared}, Inv (cxC X N' scope s3 H3 fp) [] σ' H' s' → Q (.ref s2.heap.objs.size) H' → Post (.ref s2.heap.objs.size) s3.heap.objs.size (.ok .next) s' := fun {σ' H' s'} J q => by
  obtain ⟨m, hn, _⟩ := J.loc
  have K1 : Inv X pins σ H' s' := I3.call' J.os J.base J.hok J.bare fun b hb => ⟨(f3 b hb).2.2.2.1, (f3 b hb).2.1, (f3 b hb).2.2.2.2.1, (f3 b hb).2.2.2.2.2⟩
  exact fin' _ _ H' s' K1 (I3.fpOk (b := s3.heap.objs.size) (Nat.le_refl _) (show H' s3.heap.objs.size = none from J.free)) ⟨m, hn⟩ q
 have loop : codeAny (model X.prog X.w) X.A (.compLoop (.ListComp elt [⟨tg, iter, ifs, 0⟩] scope pos) 0 (.ref it) (.ref s2.heap.objs.size) (compEnvC scope (blkCells scope X.env s3.heap.objs.size) s3.heap.objs.size X.env)) (Post (.ref s2.heap.objs.size) s3.heap.objs.size) { s3 with heap := h1 } := by
  refine ie_ (fun n s' => ∃ i σ' H', Inv (cxC X N' scope s3 H3 fp) [] σ' H' s' ∧ tn i s'.heap ∧ (∀ b ∈ fp, H' b = none) ∧ W i n σ' H') ?_ m0 ⟨0, _, H3, I4, st4, fun b hb => (f3 b hb).1, w0⟩
  rintro n s5 ⟨i, σ5, H5, I5, st5, fr5, w5⟩
  have stat : ∀ {H' : Hp}, (∀ b ∈ fp, H' b = none) → ∀ b ∈ fp, FpOk (cxC X N' scope s3 H3 fp) [] H' b := fun hn b hb => ⟨hn b hb, (I5.ok.exf b hb).1, I5.ok.exfs b hb, .inl hb, (I5.ok.exf b hb).2, fun p hp => absurd (show p ∈ ([] : List (Addr × Obj)) from hp) (by simp)⟩
  rcases turn i n σ5 H5 w5 with ⟨stop, qn⟩ | ⟨go, N, hN, step⟩
  ·refine thn (tF (T.done (cxC X N' scope s3 H3 fp) rfl rfl rfl hc i [] s5 σ5 H5 X.xe I5 (stat fr5) st5 stop)) fun r s6 ⟨hr, I6⟩ => ?_
   subst hr
   exact fin I6 qn
  ·refine thn (tF (T.item (cxC X N' scope s3 H3 fp) rfl rfl rfl hc i [] s5 σ5 H5 X.xe I5 (stat fr5) st5 go)) fun r s6 ⟨u, hr, h6⟩ => ?_
   subst hr
   refine thn (tF h6) fun _ s7 ⟨x, H7, I7, r7, y7, st7, fr7⟩ => ?_
   have I7' := I7.pinned (stat fr7) (T.obj _ _ st7)
   have again : ∀ {σ' : St} {H' : Hp} {s' : Shared}, Inv (cxC X N' scope s3 H3 fp) ([] ++ pinsAt fp s7.heap) σ' H' s' → N σ' H' → ∃ m, m < n ∧ ∃ i σ' H', Inv (cxC X N' scope s3 H3 fp) [] σ' H' s' ∧ tn i s'.heap ∧ (∀ b ∈ fp, H' b = none) ∧ W i m σ' H' := fun {σ' H' s'} J n10 => by
    obtain ⟨m', hm, w10⟩ := hN σ' H' n10
    refine ⟨m', hm, i + 1, σ', H', J.unpinned, T.keep _ _ _ st7 fun b hb o e => (J.pin (b, o) (List.mem_append_right _ (List.mem_append_right _ (dP_ hb e)))).1, fun b hb => ?_, w10⟩
    obtain ⟨o, e, d⟩ := T.obj _ _ st7 b hb
    exact (J.pin (b, o) (List.mem_append_right _ (List.mem_append_right _ (dP_ hb e)))).2.1
   refine thn (tF (hg s3 H3 fp _ s7 σ5 H7 x u _ I7' r7 (step x H7 y7))) fun _ s8 ⟨σ8, H8, I8, q8⟩ => ?_
   refine thn (tF (ht s3 H3 fp _ s8 σ8 H8 _ I8 q8)) fun ok s8' ⟨H8', I8', q8'⟩ => ?_
   cases ok with
   | false => exact again I8' (by simpa using q8')
   | true =>
    rw [if_pos rfl] at q8' ⊢
    refine thn (tF (he s3 H3 fp _ s8' σ8 H8' _ I8' q8')) fun v s9 ⟨y, H9, I9, r9, xs, hl9, hz9, n9⟩ => ?_
    exact thn (tF (bi_ (X := cxC X N' scope s3 H3 fp) _ s9 σ8 H9 (.ref s2.heap.objs.size) [y] (.ref s2.heap.objs.size) [v] (fun _ H' => N σ8 H') I9 rfl (.cons r9 .nil) ⟨s2.heap.objs.size, xs, y, rfl, rfl, hl9, hz9, n9⟩)) fun _ s10 ⟨_, H10, I10, _, n10⟩ => again I10 n10
 exact codeAny_compStart_list loop (T.self _ 0 _ _ _ st4 loop)
theorem bY_ (hc : X.calm = true) (hxe : X.xe = fun _ _ => False) (S : Scp X.env.scope X.N N' ix scope) (hi : PI X tg iter wi) (hg : ∀ s H ex, PG (cxC X N' scope s H ex) tg g) (ht : ∀ s H ex, PF (cxC X N' scope s H ex) ifs tt) (he : ∀ s H ex, PE (cxC X N' scope s H ex) elt te)
  (hs : ∀ x, foldedSetIterable iter X.env x = pure x := by intro _; rfl) : PE X (.ListComp elt [⟨tg, iter, ifs, 0⟩] scope pos) (tComp ix wi g tt te) := by
 intro pins s σ H Q I h
 rw [eval_ListComp]
 refine wpAny_comprehension_free (use := none) rfl hs (g1_ fun p hp e => I.ok.has p.1 (S.free p hp e)) S.kind S.names (if_ hc hxe S hi hg ht he I h fun D C H' s' K1 F ⟨m, hn⟩ q => ?_)
 refine ⟨m, hn, fun h' sb => ?_⟩
 obtain ⟨g0, g1, g2, g3, g4, g5⟩ := F
 exact ⟨.ref D, H', K1.turned (t' := s'.toks) (fun b o hb e => sb.extBut b o hb e) g0 g1 g3 g4 g5, rfl, q⟩
theorem f5_ {i : Nat} {y : Str} {py spos : Pos} (hc : X.calm = true) (hxe : X.xe = fun _ _ => False) (hN : X.N.Nodup) (hy : X.N[i]? = some y) (hl : X.env.scope.names.lookup y = some .local)
  (hsw : swapsWith (.ListComp elt [⟨tg, iter, ifs, 0⟩] scope pos) (some (.Name y py)) spos.line X.env = pure true)
  (S : Scp X.env.scope X.N N' ix scope) (hi : PI X tg iter wi) (hg : ∀ s H ex, PG (cxC X N' scope s H ex) tg g) (ht : ∀ s H ex, PF (cxC X N' scope s H ex) ifs tt) (he : ∀ s H ex, PE (cxC X N' scope s H ex) elt te)
  (hs : ∀ x, foldedSetIterable iter X.env x = pure x := by intro _; rfl) : PS X (.Assign [.Name y py] (.ListComp elt [⟨tg, iter, ifs, 0⟩] scope pos) spos) (tAsg (tComp ix wi g tt te) (gName i)) := by
 intro pins s σ H D I h
 rw [exec_Assign_Name_used _ _ _ _ hsw]
 refine wpAny_bind (wpAny_standAt (wpAny_bind ?_))
 show wpAny _ X.A (do let _ ← comprehension (.ListComp elt [⟨tg, iter, ifs, 0⟩] scope pos) scope X.env _ (newList []) false (eval iter X.env) (some (assign (.Name y py) X.env))) _ _ s
 refine wpAny_bind (wpAny_mono (wpAny_comprehension_free (use := some (assign (.Name y py) X.env)) (Q := fun _ s' => SP X pins D .next s') rfl hs (g1_ fun p hp e => I.ok.has p.1 (S.free p hp e)) S.kind S.names
  (if_ hc hxe S hi hg ht he I h fun L C H' s' K1 F ⟨m, hn⟩ q => ?_)) (fun _ s' hq => wpAny_pure (wpAny_pure hq)) fun _ _ e => e)
 show wpAny _ X.A (assign (.Name y py) X.env (.ref L)) _ _ _
 obtain ⟨g0, g1, g2, g3, g4, g5⟩ := F
 refine wpAny_assign_Name (hY_ K1 hN hy (.inl hl) (v := .ref L) rfl (fun s2 I2 ⟨a, sb, ha⟩ => ?_) (.inr hl))
 have hCa : C ≠ a := by
  rcases ha with rfl | ha
  ·exact g1
  ·exact fun z => g4 _ _ ha z.symm
 refine ⟨m, hn.sameBut sb hCa, fun h' sb' => ?_⟩
 exact ⟨_, H', I2.turned (t' := s2.toks) (fun b o hb e => sb'.extBut b o hb e) g0 g1 g3 g4 g5, q⟩
end
def relS (scope psc : Scope) : Scope :=
 { scope with names := scope.names.map fun (n, k) => if (k == .free && psc.kind == .function && psc.names.lookup n == some .cell) then (n, .cell) else (n, k) }
def scpB (psc : Scope) (PN N' : List Str) (ix : List (Option Nat)) (scope : Scope) : Bool :=
 scope.kind == .function &&
 scope.names.all (fun x => x.2 != .local || scope.names.lookup x.1 == some .local) &&
 scope.names.all (fun x => x.2 != .free || scope.names.lookup x.1 == some .free) &&
 scope.names.all (fun x => x.2 != .cell || !scope.names.contains (x.1, NameKind.free)) &&
 scope.names.all (fun x => x.2 != .free || (psc.names.lookup x.1 == some .cell || psc.names.lookup x.1 == some .free)) &&
 ix.length == N'.length &&
 (List.range N'.length).all (fun j => match ix[j]?, N'[j]? with | some (some i), some x => PN[i]? == some x && scope.names.contains (x, NameKind.free) | _, _ => true)
theorem bR_ {psc : Scope} {PN N' : List Str} {ix : List (Option Nat)} {scope : Scope} (h : scpB psc PN N' ix scope = true) : Scp psc PN N' ix scope := by
 unfold scpB at h
 simp only [Bool.and_eq_true, List.all_eq_true, beq_iff_eq, Bool.or_eq_true, bne_iff_ne, ne_eq, List.contains_iff_mem, Bool.not_eq_true', List.mem_range] at h
 obtain ⟨⟨⟨⟨⟨⟨h1, h2⟩, h3⟩, h4⟩, h5⟩, h6⟩, h7⟩ := h
 refine ⟨h1, fun x hx e => (h2 x hx).resolve_left fun z => z e, fun x hx e => (h3 x hx).resolve_left fun z => z e, fun x hx e hm => ?_, fun x hx e => (h5 x hx).resolve_left fun z => z e, h6, fun j i x e1 e2 => ?_⟩
 ·have := (h4 x hx).resolve_left fun z => z e
  rw [List.contains_iff_mem.mpr hm] at this
  cases this
 ·have hj : j < N'.length := (List.getElem?_eq_some_iff.mp e1).1
  have := h7 j hj
  rw [e1, e2] at this
  simp only [Bool.and_eq_true, beq_iff_eq, List.contains_iff_mem] at this
  exact this
section
variable {X : Cx} {x : Str} {pos : Pos} {i : Nat} {e : Expr} {te : TE}
theorem pvc (i : Nat) (hN : X.N[i]? = some x := by rfl) (hv : X.env.scope.names.lookup x = some .cell := by rfl) (hd : (x == ("__debug__" : Str)) = false := by decide) (hcd : (x == ("__classdict__" : Str)) = false := by decide) : PE X (.Name x pos) (tVar i) := kJ_ hN (.inr (.inl hv)) hd hcd
theorem e6_ {pos' : Pos} (hN : X.N.Nodup) (hi : X.N[i]? = some x) (hx : X.env.scope.names.lookup x = some .cell) (hf : X.fn x = true) (he : PE X e te) (hs : swapsWith e (some (.Name x pos')) pos.line X.env = pure false) : PS X (.Assign [.Name x pos'] e pos) (tAsg te (gName i)) :=
 mx_ hN hi (.inr hx) he hs (.inl hf)
theorem ez_ (hN : X.N.Nodup) (hi : X.N[i]? = some x) (hx : X.env.scope.names.lookup x = some .cell) (hf : X.fn x = true) : PG X (.Name x pos) (gName i) := kN_ hN hi (.inr hx) (.inl hf)
end
end L2
namespace L2
open PySem PySem.Spec PyProof.Rows
theorem aK_ {X : Cx} {K : PySem.W.Frag} {tg l : Expr} {tl : TE} (hK : X.K = K) (hl : PE X l tl) : PI X tg l (iList K tl) := hK ▸ mY_ hl
theorem m7_ {X : Cx} {K : PySem.W.Frag} {tg l : Expr} {tl : TE} (hK : X.K = K) (hl : PE X l tl) : PI X tg l (iTup K tl) := hK ▸ nS_ hl
theorem l1_ {X : Cx} {K : PySem.W.Frag} (hK : X.K = K) : IxR X (rIxL K) := hK ▸ k1_
inductive Dt where
 | non | bl (b : Bool) | int (i : Int) | str (x : Str) | tup (xs : List Dt) | lst (xs : List Dt)
mutual
def Rep (H : Hp) : V → Dt → Prop
 | v, .non => v = .non
 | v, .bl b => v = .bl b
 | v, .int i => v = .int i
 | v, .str x => v = .str x
 | v, .tup ds => ∃ p xs, v = .ref p ∧ H p = some (.tup xs) ∧ Reps H xs ds
 | v, .lst ds => ∃ p xs, v = .ref p ∧ H p = some (.lst xs) ∧ Reps H xs ds
def Reps (H : Hp) : List V → List Dt → Prop
 | xs, [] => xs = []
 | xs, d :: ds => ∃ x r, xs = x :: r ∧ Rep H x d ∧ Reps H r ds
end
mutual
theorem Rep.mono {H H' : Hp} (e : Same H H') : ∀ {v : V} (d : Dt), Rep H v d → Rep H' v d
 | v, .non, h => h
 | v, .bl b, h => h
 | v, .int i, h => h
 | v, .str x, h => h
 | v, .tup ds, ⟨p, xs, h1, h2, h3⟩ => ⟨p, xs, h1, e _ _ h2, Reps.mono e ds h3⟩
 | v, .lst ds, ⟨p, xs, h1, h2, h3⟩ => ⟨p, xs, h1, e _ _ h2, Reps.mono e ds h3⟩
theorem Reps.mono {H H' : Hp} (e : Same H H') : ∀ {xs : List V} (ds : List Dt), Reps H xs ds → Reps H' xs ds
 | xs, [], h => h
 | xs, d :: ds, ⟨x, r, h1, h2, h3⟩ => ⟨x, r, h1, Rep.mono e d h2, Reps.mono e ds h3⟩
end
mutual
theorem Rep.inj {H : Hp} : ∀ {v : V} (d e : Dt), Rep H v d → Rep H v e → d = e
 | v, .non, e, h, h' => by
  cases h
  cases e <;> first | rfl | (simp [Rep] at h')
 | v, .bl b, e, h, h' => by
  cases h
  cases e <;> simp [Rep] at h' <;> simp [h']
 | v, .int i, e, h, h' => by
  cases h
  cases e <;> simp [Rep] at h' <;> simp [h']
 | v, .str x, e, h, h' => by
  cases h
  cases e <;> simp [Rep] at h' <;> simp [h']
 | v, .tup ds, e, ⟨p, xs, h1, h2, h3⟩, h' => by
  subst h1
  cases e with
  | tup es =>
   obtain ⟨p', xs', g1, g2, g3⟩ := h'
   cases g1
   rw [h2] at g2
   cases g2
   rw [Reps.inj ds es h3 g3]
  | lst es =>
   obtain ⟨p', xs', g1, g2, g3⟩ := h'
   cases g1
   rw [h2] at g2
   cases g2
  | _ => simp [Rep] at h'
 | v, .lst ds, e, ⟨p, xs, h1, h2, h3⟩, h' => by
  subst h1
  cases e with
  | tup es =>
   obtain ⟨p', xs', g1, g2, g3⟩ := h'
   cases g1
   rw [h2] at g2
   cases g2
  | lst es =>
   obtain ⟨p', xs', g1, g2, g3⟩ := h'
   cases g1
   rw [h2] at g2
   cases g2
   rw [Reps.inj ds es h3 g3]
  | _ => simp [Rep] at h'
theorem Reps.inj {H : Hp} : ∀ {xs : List V} (ds es : List Dt), Reps H xs ds → Reps H xs es → ds = es
 | xs, [], es, h, h' => by
  cases h
  cases es with
  | nil => rfl
  | cons e es => obtain ⟨x, r, g, _⟩ := h'; cases g
 | xs, d :: ds, es, ⟨x, r, h1, h2, h3⟩, h' => by
  subst h1
  cases es with
  | nil => cases h'
  | cons e es =>
   obtain ⟨x', r', g1, g2, g3⟩ := h'
   cases g1
   rw [Rep.inj d e h2 g2, Reps.inj ds es h3 g3]
end
theorem Reps.length {H : Hp} : ∀ {xs : List V} {ds : List Dt}, Reps H xs ds → xs.length = ds.length
 | xs, [], h => by cases h; rfl
 | xs, d :: ds, ⟨x, r, h1, h2, h3⟩ => by subst h1; simp [Reps.length h3]
theorem Reps.get {H : Hp} : ∀ {xs : List V} {ds : List Dt} {i : Nat} {d : Dt}, Reps H xs ds → ds[i]? = some d → ∃ x, xs[i]? = some x ∧ Rep H x d
 | xs, [], i, d, h, e => by simp at e
 | xs, d' :: ds, 0, d, ⟨x, r, h1, h2, h3⟩, e => by
  subst h1
  simp at e
  subst e
  exact ⟨x, rfl, h2⟩
 | xs, d' :: ds, i + 1, d, ⟨x, r, h1, h2, h3⟩, e => by
  subst h1
  obtain ⟨y, hy, hr⟩ := Reps.get (i := i) (d := d) h3 (by simpa using e)
  exact ⟨y, by simpa using hy, hr⟩
theorem Reps.append {H : Hp} : ∀ {xs : List V} {ds : List Dt} {ys : List V} {es : List Dt}, Reps H xs ds → Reps H ys es → Reps H (xs ++ ys) (ds ++ es)
 | xs, [], ys, es, h, g => by cases h; exact g
 | xs, d :: ds, ys, es, ⟨x, r, h1, h2, h3⟩, g => by subst h1; exact ⟨x, r ++ ys, rfl, h2, Reps.append h3 g⟩
mutual
def deq : Dt → Dt → Option Bool
 | .non, .non => some true
 | .bl a, .bl b => some (a == b)
 | .int a, .int b => some (a == b)
 | .str a, .str b => some (a == b)
 | .tup xs, .tup ys => deqs xs ys
 | .lst xs, .lst ys => if xs.length = ys.length then deqs xs ys else some false
 | _, _ => none
def deqs : List Dt → List Dt → Option Bool
 | [], [] => some true
 | x :: xs, y :: ys => match deq x y, deqs xs ys with
  | some a, some b => some (a && b)
  | _, _ => none
 | _, _ => some false
end
mutual
def dep : Dt → Nat
 | .tup ds => deps ds + 1
 | .lst ds => deps ds + 1
 | _ => 0
def deps : List Dt → Nat
 | [] => 0
 | d :: ds => max (dep d) (deps ds)
end
def eAt (ds es : List Dt) (j : Nat) : Bool := match ds[j]?, es[j]? with
 | some d, some e => (deq d e).getD false
 | _, _ => false
theorem bF_ : ∀ (ds es : List Dt) (b : Bool), deqs ds es = some b → ((List.range (min ds.length es.length)).all (eAt ds es) && ds.length == es.length) = b
 | [], [], b, h => by cases h; rfl
 | [], _ :: _, b, h => by cases h; simp
 | _ :: _, [], b, h => by cases h; simp
 | d :: ds, e :: es, b, h => by
  rw [deqs] at h
  cases h1 : deq d e with
  | none => rw [h1] at h; cases h
  | some a =>
   cases h2 : deqs ds es with
   | none => rw [h1, h2] at h; cases h
   | some c =>
    rw [h1, h2] at h
    cases h
    rw [← bF_ ds es c h2]
    simp only [List.length_cons, Nat.succ_min_succ, List.range_succ_eq_map, List.all_cons, List.all_map, Bool.and_assoc]
    congr 1
    ·simp [eAt, h1]
    ·congr 1
     simp
mutual
theorem hq_ : ∀ (d : Dt) (b : Bool), deq d d = some b → b = true
 | .non, b, h => by cases h; rfl
 | .bl a, b, h => by simp [deq] at h; exact h
 | .int a, b, h => by simp [deq] at h; exact h
 | .str a, b, h => by simp [deq] at h; exact h
 | .tup xs, b, h => f6_ xs b h
 | .lst xs, b, h => by
  rw [deq, if_pos rfl] at h
  exact f6_ xs b h
theorem f6_ : ∀ (ds : List Dt) (b : Bool), deqs ds ds = some b → b = true
 | [], b, h => by cases h; rfl
 | d :: ds, b, h => by
  rw [deqs] at h
  cases h1 : deq d d with
  | none => rw [h1] at h; cases h
  | some a =>
   cases h2 : deqs ds ds with
   | none => rw [h1, h2] at h; cases h
   | some c =>
    rw [h1, h2] at h
    cases h
    rw [hq_ d a h1, f6_ ds c h2]
    rfl
end
def Vw (K : PySem.W.Frag) (H J : Hp) : Prop := (∀ q xs, J q = some (.tup xs) → SqT K H q xs) ∧ ∀ q xs, J q = some (.lst xs) → SqL K H q xs
theorem Vw.refl {K : PySem.W.Frag} {H : Hp} : Vw K H H := ⟨fun _ _ h => .inl (.inl h), fun _ _ h => .inl (.inl h)⟩
section
variable {X : Cx} {pins : List (Addr × Obj)} {σ : St} {H : Hp} {s : Shared}
mutual
theorem k7_ (I : Inv X pins σ H s) {J : Hp} (hJ : Vw X.K H J) : ∀ (d e : Dt) {A : Around} {x y : V} {u v : Value} {b : Bool}, Rep J x d → Rep J y e → RelV x u → RelV y v → deq d e = some b → A.units + dep d < cLine → SeqAt.EqAt A s u v b
 | .non, e, A, x, y, u, v, b, hx, hy, rx, ry, hb, hu => by
  cases e <;> first | (cases hb; cases hx; cases hy; cases rx; cases ry; exact SeqAt.EqAt.same _) | (simp [deq] at hb)
 | .bl a, e, A, x, y, u, v, b, hx, hy, rx, ry, hb, hu => by
  cases e <;> first | (cases hb; cases hx; cases hy; cases rx; cases ry; exact SeqAt.EqAt.bool_bool _ _) | (simp [deq] at hb)
 | .int a, e, A, x, y, u, v, b, hx, hy, rx, ry, hb, hu => by
  cases e <;> first | (cases hb; cases hx; cases hy; obtain ⟨t, rfl⟩ := rx; obtain ⟨t', rfl⟩ := ry; exact SeqAt.EqAt.int_int _ _ _ _) | (simp [deq] at hb)
 | .str a, e, A, x, y, u, v, b, hx, hy, rx, ry, hb, hu => by
  cases e <;> first | (cases hb; cases hx; cases hy; obtain ⟨t, rfl⟩ := rx; obtain ⟨t', rfl⟩ := ry; exact SeqAt.EqAt.str_str _ _ _ _) | (simp [deq] at hb)
 | .tup ds, e, A, x, y, u, v, b, hx, hy, rx, ry, hb, hu => by
  cases e with
  | tup es =>
   obtain ⟨p, xs, e1, hp, hr⟩ := id hx
   obtain ⟨q, ys, e2, hq, hs⟩ := id hy
   subst e1 e2
   cases rx
   cases ry
   by_cases hpq : p = q
   ·subst hpq
    have := Rep.inj _ _ hx hy
    cases this
    rw [hq_ _ b hb]
    exact SeqAt.EqAt.same _
   ·obtain ⟨its, r1, pl1, _⟩ := I.tuple (hJ.1 _ _ hp)
    obtain ⟨its', r2, pl2, _⟩ := I.tuple (hJ.1 _ _ hq)
    have l1 := r1.length
    have l2 := r2.length
    have g1 := hr.length
    have g2 := hs.length
    have hu' : A.in1.units + deps ds < cLine := by
     have : A.units + (deps ds + 1) < cLine := hu
     rw [PySem.Around.in1_units]; omega
    have hb' : deqs ds es = some b := hb
    rw [← bF_ ds es b hb']
    have := SeqAt.RcAt.tuples (e := eAt ds es) (A := A) (s := s) pl1 pl2 (Nat.lt_of_le_of_lt (Nat.le_add_right _ _) hu) (fun j h1 h2 => by
     have := d9_ I hJ ds es hr hs r1 r2 hb' hu' j (by simpa using h1) (by simpa using h2)
     simpa using this)
    simp only [List.size_toArray, ← l1, ← l2, g1, g2] at this
    exact SeqAt.EqAt.of_refs hpq this
  | _ => simp [deq] at hb
 | .lst ds, e, A, x, y, u, v, b, hx, hy, rx, ry, hb, hu => by
  cases e with
  | lst es =>
   obtain ⟨p, xs, e1, hp, hr⟩ := id hx
   obtain ⟨q, ys, e2, hq, hs⟩ := id hy
   subst e1 e2
   cases rx
   cases ry
   by_cases hpq : p = q
   ·subst hpq
    have := Rep.inj _ _ hx hy
    cases this
    rw [hq_ _ b hb]
    exact SeqAt.EqAt.same _
   ·obtain ⟨its, r1, pl1, _⟩ := I.list (hJ.2 _ _ hp)
    obtain ⟨its', r2, pl2, _⟩ := I.list (hJ.2 _ _ hq)
    have l1 := r1.length
    have l2 := r2.length
    have g1 := hr.length
    have g2 := hs.length
    have hu0 : A.units < cLine := Nat.lt_of_le_of_lt (Nat.le_add_right _ _) hu
    have hu' : A.in1.units + deps ds < cLine := by
     have : A.units + (deps ds + 1) < cLine := hu
     rw [PySem.Around.in1_units]; omega
    rw [deq] at hb
    by_cases hl : ds.length = es.length
    ·rw [if_pos hl] at hb
     rw [← bF_ ds es b hb]
     have := SeqAt.RcAt.lists (e := eAt ds es) (A := A) (s := s) pl1.isList pl2.isList (by simp only [List.size_toArray]; omega) hu0 (fun j h1 h2 => by
      have := d9_ I hJ ds es hr hs r1 r2 hb hu' j (by simpa using h1) (by simpa using h2)
      simpa using this)
     simp only [List.size_toArray, ← l1, g1] at this
     refine SeqAt.EqAt.of_refs hpq ?_
     have e3 : min ds.length es.length = ds.length := by omega
     rw [e3, hl]
     simpa [hl] using this
    ·rw [if_neg hl] at hb
     cases hb
     exact SeqAt.EqAt.of_refs hpq (SeqAt.RcAt.lists_lengths pl1.isList pl2.isList (by simp only [List.size_toArray, bne_iff_ne, ne_eq]; omega) hu0)
  | _ => simp [deq] at hb
theorem d9_ (I : Inv X pins σ H s) {J : Hp} (hJ : Vw X.K H J) : ∀ (ds es : List Dt) {A : Around} {xs ys : List V} {us vs : List Value} {b : Bool}, Reps J xs ds → Reps J ys es → Vals xs us → Vals ys vs → deqs ds es = some b → A.units + deps ds < cLine →
  ∀ (j : Nat) (h1 : j < us.length) (h2 : j < vs.length), SeqAt.EqAt A s us[j] vs[j] (eAt ds es j)
 | [], es, A, xs, ys, us, vs, b, hx, hy, rx, ry, hb, hu, j, h1, h2 => by
  cases hx
  cases rx
  exact absurd h1 (Nat.not_lt_zero _)
 | d :: ds, es, A, xs, ys, us, vs, b, ⟨x, r, e1, hd, hr⟩, hy, rx, ry, hb, hu, j, h1, h2 => by
  subst e1
  cases es with
  | nil =>
   cases hy
   cases ry
   exact absurd h2 (Nat.not_lt_zero _)
  | cons e es =>
   obtain ⟨y, r', e2, he, hs⟩ := hy
   subst e2
   cases rx with
   | cons rx rxs =>
    cases ry with
    | cons ry rys =>
     rw [deqs] at hb
     cases g1 : deq d e with
     | none => rw [g1] at hb; cases hb
     | some a =>
      cases g2 : deqs ds es with
      | none => rw [g1, g2] at hb; cases hb
      | some c =>
       have hm : A.units + max (dep d) (deps ds) < cLine := hu
       cases j with
       | zero =>
        have := k7_ I hJ d e (A := A) hd he rx ry g1 (by omega)
        simpa [eAt, g1] using this
       | succ j =>
        have := d9_ I hJ ds es (A := A) hr hs rxs rys g2 (by omega) j (by simpa using h1) (by simpa using h2)
        simpa [eAt] using this
end
def rEqV (K : PySem.W.Frag) : R2 := fun x y H Q => ∃ J p q d e b, Vw K H J ∧ x = .ref p ∧ y = .ref q ∧ Rep J x d ∧ Rep J y e ∧ deq d e = some b ∧ dep d ≤ 60 ∧ Q (.bl b) H
theorem ig_ {K : PySem.W.Frag} (hK : X.K = K) (hu : X.A.units + 64 < cLine) : OpR X (compareOp .Eq) (rEqV K) := by
 subst hK
 intro pins s σ H x y v u Q I rx ry h
 obtain ⟨J, p, q, d, e, b, hJ, e1, e2, hx, hy, hb, hd, k⟩ := h
 subst e1 e2
 cases rx
 cases ry
 have fin : EP X pins σ Q (.bool b) s := ⟨.bl b, H, I, rfl, k⟩
 cases d with
 | tup ds =>
  cases e with
  | tup es =>
   obtain ⟨_, xs, z, hp, hr⟩ := hx
   cases z
   obtain ⟨_, ys, z, hq, hs⟩ := hy
   cases z
   obtain ⟨its, r1, pl1, _⟩ := I.tuple (hJ.1 _ _ hp)
   obtain ⟨its', r2, pl2, _⟩ := I.tuple (hJ.1 _ _ hq)
   have l1 := r1.length
   have l2 := r2.length
   have g1 := hr.length
   have g2 := hs.length
   have hd' : deps ds + 1 ≤ 60 := hd
   have hu' : X.A.in1.units + deps ds < cLine := by rw [PySem.Around.in1_units]; omega
   have hb' : deqs ds es = some b := hb
   refine SeqAt.eq_tupleAt (e := eAt ds es) pl1 pl2 (by omega) (fun j h1 h2 => by
    have := d9_ I hJ ds es hr hs r1 r2 hb' hu' j (by simpa using h1) (by simpa using h2)
    simpa using this) ?_
   simp only [List.size_toArray, ← l1, ← l2, g1, g2]
   rw [bF_ ds es b hb']
   exact fin
  | _ => simp [deq] at hb
 | lst ds =>
  cases e with
  | lst es =>
   obtain ⟨_, xs, z, hp, hr⟩ := hx
   cases z
   obtain ⟨_, ys, z, hq, hs⟩ := hy
   cases z
   obtain ⟨its, r1, pl1, _⟩ := I.list (hJ.2 _ _ hp)
   obtain ⟨its', r2, pl2, _⟩ := I.list (hJ.2 _ _ hq)
   have l1 := r1.length
   have l2 := r2.length
   have g1 := hr.length
   have g2 := hs.length
   have hd' : deps ds + 1 ≤ 60 := hd
   have hu' : X.A.in1.units + deps ds < cLine := by rw [PySem.Around.in1_units]; omega
   rw [deq] at hb
   by_cases hl : ds.length = es.length
   ·rw [if_pos hl] at hb
    refine SeqAt.eq_listAt (e := eAt ds es) pl1.isList pl2.isList (by simp only [List.size_toArray]; omega) (by omega) (fun j h1 h2 => by
     have := d9_ I hJ ds es hr hs r1 r2 hb hu' j (by simpa using h1) (by simpa using h2)
     simpa using this) ?_
    have e3 := bF_ ds es b hb
    have e4 : min ds.length es.length = ds.length := by omega
    rw [e4, hl] at e3
    simp only [beq_self_eq_true, Bool.and_true] at e3
    simp only [List.size_toArray, ← l1, g1, hl, e3]
    exact fin
   ·rw [if_neg hl] at hb
    cases hb
    exact SeqAt.eq_list_lengthsAt pl1.isList pl2.isList (by simp only [List.size_toArray, bne_iff_ne, ne_eq]; omega) (by omega) fin
  | _ => simp [deq] at hb
 | _ => simp [Rep] at hx
def rEqD : R2 := fun x y H Q => ∃ p q d e b, x = .ref p ∧ y = .ref q ∧ Rep H x d ∧ Rep H y e ∧ deq d e = some b ∧ dep d ≤ 60 ∧ Q (.bl b) H
theorem n3_ (hu : X.A.units + 64 < cLine) : OpR X (compareOp .Eq) rEqD := fun pins s σ H x y v u Q I rx ry ⟨p, q, d, e, b, h⟩ => ig_ rfl hu pins s σ H x y v u Q I rx ry ⟨H, p, q, d, e, b, Vw.refl, h⟩
def rNeV (K : PySem.W.Frag) : R2 := fun x y H Q => ∃ J p q d e b, Vw K H J ∧ x = .ref p ∧ y = .ref q ∧ Rep J x d ∧ Rep J y e ∧ deq d e = some b ∧ dep d ≤ 60 ∧ Q (.bl (!b)) H
theorem k8_ {K : PySem.W.Frag} (hK : X.K = K) (hu : X.A.units + 64 < cLine) : OpR X (compareOp .NotEq) (rNeV K) := by
 subst hK
 intro pins s σ H x y v u Q I rx ry h
 obtain ⟨J, p, q, d, e, b, hJ, e1, e2, hx, hy, hb, hd, k⟩ := h
 subst e1 e2
 cases rx
 cases ry
 have fin : EP X pins σ Q (.bool (!b)) s := ⟨.bl (!b), H, I, rfl, k⟩
 cases d with
 | tup ds =>
  cases e with
  | tup es =>
   obtain ⟨_, xs, z, hp, hr⟩ := hx
   cases z
   obtain ⟨_, ys, z, hq, hs⟩ := hy
   cases z
   obtain ⟨its, r1, pl1, _⟩ := I.tuple (hJ.1 _ _ hp)
   obtain ⟨its', r2, pl2, _⟩ := I.tuple (hJ.1 _ _ hq)
   have l1 := r1.length
   have l2 := r2.length
   have g1 := hr.length
   have g2 := hs.length
   have hd' : deps ds + 1 ≤ 60 := hd
   have hu' : X.A.in1.units + deps ds < cLine := by rw [PySem.Around.in1_units]; omega
   have hb' : deqs ds es = some b := hb
   refine SeqAt.RcNeAt.tuples (e := eAt ds es) pl1 pl2 (by omega) (fun j h1 h2 => by
    have := d9_ I hJ ds es hr hs r1 r2 hb' hu' j (by simpa using h1) (by simpa using h2)
    simpa using this) _ _ _ _ ?_
   simp only [List.size_toArray, ← l1, ← l2, g1, g2]
   rw [bF_ ds es b hb']
   exact fin
  | _ => simp [deq] at hb
 | lst ds =>
  cases e with
  | lst es =>
   obtain ⟨_, xs, z, hp, hr⟩ := hx
   cases z
   obtain ⟨_, ys, z, hq, hs⟩ := hy
   cases z
   obtain ⟨its, r1, pl1, _⟩ := I.list (hJ.2 _ _ hp)
   obtain ⟨its', r2, pl2, _⟩ := I.list (hJ.2 _ _ hq)
   have l1 := r1.length
   have l2 := r2.length
   have g1 := hr.length
   have g2 := hs.length
   have hd' : deps ds + 1 ≤ 60 := hd
   have hu' : X.A.in1.units + deps ds < cLine := by rw [PySem.Around.in1_units]; omega
   rw [deq] at hb
   by_cases hl : ds.length = es.length
   ·rw [if_pos hl] at hb
    refine SeqAt.RcNeAt.lists (e := eAt ds es) pl1.isList pl2.isList (by simp only [List.size_toArray]; omega) (by omega) (fun j h1 h2 => by
     have := d9_ I hJ ds es hr hs r1 r2 hb hu' j (by simpa using h1) (by simpa using h2)
     simpa using this) _ _ _ _ ?_
    have e3 := bF_ ds es b hb
    have e4 : min ds.length es.length = ds.length := by omega
    rw [e4, hl] at e3
    simp only [beq_self_eq_true, Bool.and_true] at e3
    simp only [List.size_toArray, ← l1, g1, hl, e3]
    exact fin
   ·rw [if_neg hl] at hb
    cases hb
    exact SeqAt.RcNeAt.lists_lengths pl1.isList pl2.isList (by simp only [List.size_toArray, bne_iff_ne, ne_eq]; omega) (by omega) _ _ _ _ fin
  | _ => simp [deq] at hb
 | _ => simp [Rep] at hx
def rNeD : R2 := fun x y H Q => ∃ p q d e b, x = .ref p ∧ y = .ref q ∧ Rep H x d ∧ Rep H y e ∧ deq d e = some b ∧ dep d ≤ 60 ∧ Q (.bl (!b)) H
theorem ih_ (hu : X.A.units + 64 < cLine) : OpR X (compareOp .NotEq) rNeD := fun pins s σ H x y v u Q I rx ry ⟨p, q, d, e, b, h⟩ => k8_ rfl hu pins s σ H x y v u Q I rx ry ⟨H, p, q, d, e, b, Vw.refl, h⟩
end
end L2
namespace L2
open PySem PySem.Spec PyProof.Rows
section
variable {X : Cx} {pins : List (Addr × Obj)} {σ : St} {H : Hp} {s : Shared} {h' : Heap}
theorem Inv.turnedL {t' : Nat} {ch : List Addr} (I : Inv X pins σ H s) (k : ∀ b o, b ∉ ch → s.heap.get? b = some o → h'.get? b = some o) (hf : ∀ b ∈ ch, FpOk X pins H b) : Inv X pins σ H { s with heap := h', toks := t' } := by
 have nit : ∀ b u, H b = some u → b ∉ ch := fun b u e z => by rw [(hf b z).1] at e; cases e
 refine I.step (g' := s.gens) (d' := s.drawn) (ch := ch) (fun b hb => ?_) (fun b o _ _ hc e _ => k b o hc e) (fun b o _ _ hc e _ => ⟨o.slots, k b o hc e⟩) (fun _ _ _ _ n => n)
  (fun b o hc e => ⟨o, k b o hc e⟩) (fun _ _ e => e) (fun _ _ _ e => e) (fun b ps e => ⟨#[], by rw [e]; simp⟩) (fun m hm => ?_) (fun b u e => ?_) I.bare
 ·obtain ⟨g0, g1, g2, g3, g4, g5⟩ := hf b hb
  exact ⟨g3, g1, g4, g5⟩
 ·obtain ⟨o, es, ep, ho, r⟩ := hm
  exact ⟨o, es, ep, k _ o (fun z => (hf _ z).2.1 rfl) ho, r⟩
 ·refine (I.hok b u e).stay (fun c v hc q => k c v ?_ q) (fun _ q => q) fun _ _ q => q
  rcases hc with z | z
  ·rw [z]; exact nit b u e
  ·exact nit c _ z
end
def Itz (K : PySem.W.Frag) (a b : Addr) : It :=
  ⟨fun i H => ∃ xs ys x y, SqL K H a xs ∧ SqL K H b ys ∧ xs[i]? = some x ∧ ys[i]? = some y,
   fun i H v H' => ∃ T x y, v = .ref T ∧ H T = none ∧ H' = upd H T (.tup [x, y]) ∧ (∀ xs, SqL K H a xs → xs[i]? = some x) ∧ (∀ ys, SqL K H b ys → ys[i]? = some y),
   fun i H => ∃ xs ys, SqL K H a xs ∧ SqL K H b ys ∧ (xs.length ≤ i ∨ ys.length ≤ i)⟩
def iZip (K : PySem.W.Frag) (ta : TA) : TI := fun σ H R => ta σ H fun vs H1 => ∃ a b, vs = [.ref a, .ref b] ∧ (∃ xs, SqL K H1 a xs) ∧ (∃ ys, SqL K H1 b ys) ∧ R (Itz K a b) H1
section
variable {X : Cx} {elts : List Expr} {kt : Nat} {tpos : Pos}
end
def rSum (K : PySem.W.Frag) : List V → Hp → VK → Prop := fun xs H Q => ∃ (p : Addr) (ns : List Int), xs = [V.ref p] ∧ SqL K H p (ns.map V.int) ∧ Q (.int ns.sum) H
def rListH : List V → Hp → VK → Prop := fun xs H Q => ∃ p ys, xs = [V.ref p] ∧ (H p = some (.lst ys) ∨ H p = some (.tup ys)) ∧ ∀ l, H l = none → Q (.ref l) (upd H l (.lst ys))
theorem e7_ {X : Cx} : CallR X (.type "list") rListH := by
 intro pins s σ H xs us Q I r h
 obtain ⟨p, ys, e, hp, q⟩ := h
 exact h8_ pins s σ H xs us Q I r ⟨p, ys, e, hp.imp (fun z => .inl (.inl z)) (fun z => .inl (.inl z)), q⟩
theorem dR_ {X : Cx} {x : Str} {e : Expr} {es : List Expr} {t : TA} {p pos : Pos} {n : String} {r : List V → Hp → VK → Prop} (hc : CallR X (.type n) r) (hg : Gl X x) (hm : X.mg x = none) (hv : bootBuiltins x = some (.type n)) (ha : PA X (e :: es) t) (hs : plainArgs (e :: es) = true := by rfl) (hn : x ≠ "__name__" := by decide) (hdb : (x == ("__debug__" : Str)) = false := by decide) :
  PE X (.Call (.Name x p) (e :: es) [] pos) (tCB r t) :=
 have h' : notStar e = true ∧ plainArgs es = true := by simpa [plainArgs] using hs
 kZ_ hc hg hm hv ha hn hdb (aC_ h'.1) (bQ_ h'.2)
end L2
namespace L2
open PySem PySem.Spec PyProof.Rows
def newH (B H : Hp) : Hp := fun b => match B b with | some _ => none | none => H b
def cutH (B : Hp) (D : Addr) (H : Hp) : Hp := fun b => if b = D then none else newH B H b
theorem aP_ {B H : Hp} {b : Addr} {o : HO} (h : newH B H b = some o) : B b = none ∧ H b = some o := by
 unfold newH at h
 cases e : B b with
 | some z => rw [e] at h; cases h
 | none => rw [e] at h; exact ⟨rfl, h⟩
theorem bZ_ {B H : Hp} {b : Addr} (h : B b = none) : newH B H b = H b := by
 unfold newH
 rw [h]
theorem cY_ {B H : Hp} {D b : Addr} {o : HO} (h : cutH B D H b = some o) : b ≠ D ∧ B b = none ∧ H b = some o := by
 unfold cutH at h
 by_cases e : b = D
 ·rw [if_pos e] at h; cases h
 ·rw [if_neg e] at h; exact ⟨e, aP_ h⟩
theorem bw_ {B H : Hp} {D b : Addr} (e : b ≠ D) (h : B b = none) : cutH B D H b = H b := by
 unfold cutH
 rw [if_neg e, bZ_ h]
theorem bb_ {B H : Hp} : Same (newH B H) H := fun b o h => (aP_ h).2
theorem jO_ {B H : Hp} {D : Addr} : Same (cutH B D H) (newH B H) := fun b o h => by
 obtain ⟨h1, h2, h3⟩ := cY_ h
 rw [bZ_ h2]; exact h3
theorem f7_ {B H H' : Hp} {D : Addr} (e : Same H H') : Same (cutH B D H) (cutH B D H') := fun b o h => by
 obtain ⟨h1, h2, h3⟩ := cY_ h
 rw [bw_ h1 h2]; exact e _ _ h3
theorem dy_ {B H H' : Hp} (e : Same H H') : Same (newH B H) (newH B H') := fun b o h => by
 obtain ⟨h1, h2⟩ := aP_ h
 rw [bZ_ h1]; exact e _ _ h2
theorem hr_ {B H : Hp} {D : Addr} {o : HO} : cutH B D (upd H D o) = cutH B D H := by
 funext b
 unfold cutH newH
 by_cases e : b = D
 ·rw [if_pos e, if_pos e]
 ·rw [if_neg e, if_neg e, af_ e]
theorem bL_ {J : It} {g : TG} {te : TE} {σ : St} {H : Hp} {Q : VK} (n : Nat) (B : Hp) (Pσ : St → Prop) (ds : List Dt) (hB : Same B H) (h0 : Pσ σ) (hlen : ds.length = n) (hz : n ≤ 1000)
  (hgo : ∀ i H', i < n → Same H H' → J.go i H') (hst : ∀ H', Same H H' → J.stop n H')
  (hs : ∀ D i x d σ' H' H'', H D = none → (∃ o, H' D = some o) → Same H H' → i < n → ds[i]? = some d → J.yld i H' x H'' → Pσ σ' → ∀ R : St → V → Hp → Prop,
   (∀ σ2 v H3, Pσ σ2 → Same H' H3 → Rep (cutH B D H3) v d → R σ2 v H3) → g x σ' H'' fun σ2 H2 => te σ2 H2 fun v H3 => R σ2 v H3)
  (hd : ∀ D H', H D = none → Same H H' → Rep (newH B H') (.ref D) (.lst ds) → Q (.ref D) H') : CompGo J g tYes te σ H Q := by
 intro D hD
 have hBD : B D = none := hB.free hD
 refine ⟨fun i m σ' H' => m = n - i ∧ i ≤ n ∧ Pσ σ' ∧ Same H H' ∧ ∃ ys, H' D = some (.lst ys) ∧ Reps (cutH B D H') ys (ds.take i) ∧ ys.length = i, ⟨n, by simp, Nat.zero_le _, h0, Same.new hD, [], ac_, rfl, rfl⟩, ?_⟩
 rintro i m σ' H' ⟨rfl, hi, hp, hs', ys, hys, hr, hl⟩
 by_cases hlt : i < n
 ·refine .inr ⟨hgo i H' hlt hs', fun σ2 H2 => Pσ σ2 ∧ Same H H2 ∧ ∃ ys, H2 D = some (.lst ys) ∧ Reps (cutH B D H2) ys (ds.take (i + 1)) ∧ ys.length = i + 1, fun σ2 H2 ⟨a, b, c⟩ => ⟨n - (i + 1), by omega, rfl, hlt, a, b, c⟩, fun x H'' hy => ?_⟩
  have hdi : ds[i]? = some ds[i] := by simp [hlen, hlt]
  simp only [tYes, if_true]
  refine hs D i x ds[i] σ' H' H'' hD ⟨_, hys⟩ hs' hlt hdi hy hp _ fun σ2 v H3 hp2 s3 hv => ?_
  refine ⟨ys, s3 _ _ hys, by rw [hl]; exact small1000 (by omega), hp2, (hs'.trans s3).upd hD, ys ++ [v], ac_, ?_, by simp [hl]⟩
  rw [hr_]
  have e : ds.take (i + 1) = ds.take i ++ [ds[i]] := by rw [List.take_succ, hdi]; rfl
  rw [e]
  exact (Reps.mono (f7_ s3) _ hr).append ⟨v, [], rfl, hv, rfl⟩
 ·have e : i = n := by omega
  subst e
  refine .inl ⟨hst H' hs', hd D H' hD hs' ⟨D, ys, rfl, ?_, ?_⟩⟩
  ·rw [bZ_ hBD]; exact hys
  ·rw [List.take_of_length_le (by omega)] at hr
   exact Reps.mono jO_ _ hr
theorem Reps.of_get {H : Hp} {xs : List V} {ds : List Dt} {i : Nat} {x : V} (h : Reps H xs ds) (e : xs[i]? = some x) : ∃ d, ds[i]? = some d ∧ Rep H x d := by
 have hi : i < xs.length := (List.getElem?_eq_some_iff.mp e).1
 have hi' : i < ds.length := by rw [← h.length]; exact hi
 obtain ⟨y, hy, hr⟩ := h.get (i := i) (d := ds[i]) (by simp [hi'])
 rw [e] at hy
 cases hy
 exact ⟨ds[i], by simp [hi'], hr⟩
theorem bc_ {X : Cx} {K : PySem.W.Frag} {es : List Expr} {k : Nat} {t : TGs} {n : Nat} {pos : Pos} (hK : X.K = K) (hc : X.calm = true) (h : PGs X es t)
  (hn : (assignEach es X.env).length = n := by rfl) (hst : (assignEach es X.env).findIdx? (·.1) = none := by rfl) : PG X (.Tuple es k pos) (gTup K n t) := hK ▸ nR_ hc h hn hst
end L2
namespace L2
open PySem PySem.Spec PyProof.Rows
def CXR (P : Program) (w : World) : CXT := fun outer H s E e s' =>
 ∃ (ea : Addr) (C a0 : Value) (B : Heap) (H' : Hp), e = .ref ea ∧ s'.os = s.os ∧ AllBare s'.gens ∧ Un (frs outer) [] H H' s.heap s'.heap ∧ HOk P w H' s'.heap ∧
  Heap.FlyingW B outer ea C a0 s'.heap ∧ s.heap.get? ea = none ∧ (∀ b o, s.heap.get? b = some o → b ∉ frs outer → ∃ u, B.get? b = some u) ∧ (∀ b o, H' b = some o → ∃ u, B.get? b = some u) ∧ E C none H'
theorem ObjOk.obj {P : Program} {w : World} {H : Hp} {h : Heap} {a : Addr} {o : HO} (x : ObjOk P w H h a o) : ∃ u, h.get? a = some u := by
 cases o with
 | lst xs => obtain ⟨_, _, _, _, e⟩ := x; exact ⟨_, e⟩
 | tup xs => obtain ⟨_, _, _, ob, e, _⟩ := x; exact ⟨_, e⟩
 | dK kvs => obtain ⟨_, _, _, _, o, _, _, e, _⟩ := x; exact ⟨_, e⟩
 | dT kvs => obtain ⟨_, _, _, _, o, _, _, e, _⟩ := x; exact ⟨_, e⟩
 | set S n => obtain ⟨o, _, _, _, e, _⟩ := x; exact ⟨_, e⟩
 | ins C dx fs => obtain ⟨_, _, _, e, _⟩ := x; exact ⟨_, e⟩
 | own y => exact x
 | xd fs => obtain ⟨_, ⟨_, _, _, e, _⟩, _⟩ := x; exact ⟨_, e⟩
 | rng lo hi => obtain ⟨_, _, _, e⟩ := x; exact ⟨_, e⟩
 | frz ob u => obtain ⟨e, _⟩ := x; exact ⟨_, e⟩
 | tbl ps => exact ⟨_, show h.get? a = some _ from x⟩
 | met f y => exact ⟨_, show h.get? a = some _ from x⟩
 | ext φ => obtain ⟨_, e, _⟩ := x; exact e
theorem hs_ {P : Program} {w : World} {l : List Env} {H H' : Hp} {h h1 h2 B : Heap} (u : Un (frs l) [] H H' h h1) (hok : HOk P w H' h1) (s1 : B.StaysIn h1) (s2 : B.StaysIn h2) (ff : h1.FunFrames B l) (sm : h1.UpToSlots h2)
  (b1 : ∀ b o, h.get? b = some o → b ∉ frs l → ∃ u, B.get? b = some u) (b2 : ∀ b o, H' b = some o → ∃ u, B.get? b = some u) : Un (frs l) [] H H' h h2 ∧ HOk P w H' h2 := by
 have same : ∀ {b o}, (∃ v, B.get? b = some v) → h1.get? b = some o → h2.get? b = some o := fun {b o} ⟨v, e⟩ q => by
  have := s1 b v e
  rw [q] at this
  cases this
  exact s2 b _ e
 refine ⟨⟨fun b o q n hb hx => same (b1 b o q hb) (u.keep b o q n hb hx), fun b o q n hb hx => ?_, u.free, fun b o q hx => ?_, u.tups, u.frzs, u.tbls⟩, fun a o e => ?_⟩
 ·obtain ⟨sl, e⟩ := u.slot b o q n hb hx
  obtain ⟨_, ob, e2, nf⟩ := ff.mem hb
  rw [e] at e2
  cases e2
  obtain ⟨sl', e3⟩ := sm b _ e nf
  exact ⟨sl', e3⟩
 ·by_cases hb : b ∈ frs l
  ·obtain ⟨_, ob, e2, nf⟩ := ff.mem hb
   obtain ⟨sl', e3⟩ := sm b _ e2 nf
   exact ⟨_, e3⟩
  ·obtain ⟨v, e⟩ := b1 b o q hb
   exact ⟨v, s2 b v e⟩
 ·refine (hok a o e).stay (fun b v hb q => same ?_ q) (fun _ q => q) fun _ _ q => q
  rcases hb with rfl | hb
  ·exact b2 _ _ e
  ·exact b2 _ _ hb
structure ExC (K : PySem.W.Frag) (C : Addr) : Prop where
 obj : ∀ {h : Heap}, K.In h → ∃ bm N nm q bs hdct sn sub ab col dd k0 k1 k2 k3 k5 mN, h.get? C = some (excClassObj nm q C N bs bm hdct sn sub ab col dd k0 k1 k2 k3 k5 "ValueError.__new__") ∧ h.Ns N mN ∧ mN "__init__" = none ∧
  OwnTail h [.type "ValueError", .type "Exception", .type "BaseException", .type "object"] bm
theorem n4_ {K : PySem.W.Frag} {C : Addr} (q : PySem.W.excIn K C [.type "ValueError", .type "Exception", .type "BaseException", .type "object"] "ValueError.__new__" = true) : ExC K C := by
 refine ⟨fun {h} XI => ?_⟩
 unfold PySem.W.excIn at q
 split at q
 ·rename_i dd cd sl ho
  split at q
  ·rename_i C' bm k0 k1 k2 k3 n k5 hm hs
   simp only [Bool.and_eq_true, beq_iff_eq, Bool.not_eq_true'] at q
   obtain ⟨⟨⟨⟨⟨q1, q2⟩, q3⟩, q4⟩, q5⟩, q6⟩ := q
   subst q1 q2
   obtain ⟨nm, bs, mro, ns, qn, hd, sn, sub, ab, col, del⟩ := cd
   dsimp only at hm q3 q5 q6
   subst hm q3
   have hsl : sl = #[k0, k1, k2, k3, some (.builtin "ValueError.__new__"), k5] := by
    obtain ⟨l⟩ := sl
    exact congrArg Array.mk hs
   subst hsl
   exact ⟨bm, ns, nm, qn, bs, hd, sn, sub, ab, col, dd, k0, k1, k2, k3, k5, _, XI _ _ ho, .of_isNs (PySem.W.isNs_of_in XI q5), PySem.W.nsMap_none_of_in XI q5 q6, PySem.W.tail_of_in XI q4⟩
  ·cases q
 ·cases q
theorem jb_ {M : Model} {A : Around} {EE : Value → Shared → Prop} {s : Shared} {env : Env} {fv : Value} {e₀ : Expr} {rest : List Expr} {cpos : Pos} {Q : Args → Shared → Prop} (he : starEach (e₀ :: rest) env = (false, eval e₀ env) :: starEach rest env)
  (h : wpAny M A (spliced (backTo cpos (starEach (e₀ :: rest) env))) (fun vs s' => Q ⟨vs, []⟩ s') EE s) : wpAny M A (evalArgs fv true (backTo cpos (starEach (e₀ :: rest) env)) []) Q EE s := by
 rw [he] at h ⊢
 exact Calls.evalArgs_plain h
def tRaise (C : Addr) (E : XK) (ta : TA) : TS := fun _ σ H => ta σ H fun vs H1 => vs.length ≤ sizeLine ∧ E (.ref C) none H1
section
variable {P : Program} {w : World} {K : PySem.W.Frag} {mg : Str → Option Value} {base : Heap} {N : List Str} {qual : Str} {scope : Scope} {f : Addr} {cd : Value} {A : Around} {outer : List Env} {s₀ : Shared} {H₀ : Hp} {E : XK}
theorem l2_ {x : Str} {C : Addr} {np cpos pos : Pos} {e₀ : Expr} {rest : List Expr} {ta : TA} (OC : ExC K C) (hm : mg x = some (.ref C)) (hh : A.handled = none) (hg : Gl (cxOf (CXR P w) P w K mg base N qual scope f cd A outer s₀ H₀ E) x)
  (ha : PA (cxOf (CXR P w) P w K mg base N qual scope f cd A outer s₀ H₀ E) (e₀ :: rest) ta) (hd : (x == ("__debug__" : Str)) = false := by decide)
  (he : starEach (e₀ :: rest) (envOfC qual scope s₀.heap.objs.size f cd) = (false, eval e₀ (envOfC qual scope s₀.heap.objs.size f cd)) :: starEach rest (envOfC qual scope s₀.heap.objs.size f cd) := by rfl)
  (hpl : (backTo cpos (starEach rest (envOfC qual scope s₀.heap.objs.size f cd))).any (·.1) = false := by rfl) :
  PS (cxOf (CXR P w) P w K mg base N qual scope f cd A outer s₀ H₀ E) (.Raise (some (.Call (.Name x np) (e₀ :: rest) [] cpos)) none pos) (tRaise C E ta) := by
 intro pins s σ H D I h
 obtain ⟨bm, Nn, nm, q, bs, hdct, sn, sub, ab, col, dd, k0, k1, k2, k3, k5, mN, hC, hN, hni, TL⟩ := OC.obj I.mod.kin
 refine wpAny_Raise_call_subT (C := C) (nm := nm) (q := q) (N := Nn) (bs := bs) (bm := bm) (hdct := hdct) (sn := sn) (sub := sub) (ab := ab) (col := col) (dd := dd) (k0 := k0) (k1 := k1) (k2 := k2) (k3 := k3) (k5 := k5)
  F.excBase_ValueError (mN := mN) (TL.hasType F.excBase_ValueError.hasBase) hh ?_ hni (fX_ I hg hm ⟨rfl, ?_⟩ hd)
 ·show (backTo cpos (starEach (e₀ :: rest) (envOfC qual scope s₀.heap.objs.size f cd))).any (·.1) = false
  rw [he]
  exact hpl
 have z := ha cpos pins s σ H _ I h
 refine jb_ he (thn z fun us s2 ⟨vs, H1, I1, r, hz, hE⟩ => ⟨rfl, by rw [← r.length]; exact hz, I1.bk _ _ hC, hN.keeps I1.bk, TL.keeps I1.bk, fun h' e hx => ?_⟩)
 have hin : ∀ env ∈ (envOfC qual scope s₀.heap.objs.size f cd :: outer), ∀ b, env.frame = some b → b ∈ frs (envOfC qual scope s₀.heap.objs.size f cd :: outer) := fun env he b hb => List.mem_filterMap.mpr ⟨env, he, hb⟩
 have stk : s2.heap.FunFrames base (envOfC qual scope s₀.heap.objs.size f cd :: outer) := I1.stack
 have hl := PySem.W.funFrames_hide stk hin
 refine wpAny_leaves_madeW (base := PySem.W.hideAll s2.heap (frs (envOfC qual scope s₀.heap.objs.size f cd :: outer))) I1.ok.frames rfl (fun b o q => PySem.W.of_hideAll _ q) hl hx fun h'' t x1 x2 x3 x4 => ?_
 have b2 : ∀ b o, H1 b = some o → ∃ u, (PySem.W.hideAll s2.heap (frs (envOfC qual scope s₀.heap.objs.size f cd :: outer))).get? b = some u := fun b o e => by
  obtain ⟨u, hu⟩ := (I1.hok b o e).obj
  refine ⟨u, PySem.W.hideAll_get _ hu fun z => ?_⟩
  rw [I1.stkFree b z] at e
  cases e
 have b1 : ∀ b o, s₀.heap.get? b = some o → b ∉ frs outer → ∃ u, (PySem.W.hideAll s2.heap (frs (envOfC qual scope s₀.heap.objs.size f cd :: outer))).get? b = some u := fun b o e nb => by
  obtain ⟨u, hu⟩ := I1.base.there b o e (fun z => nomatch z)
  refine ⟨u, PySem.W.hideAll_get _ hu fun z => ?_⟩
  rcases List.mem_cons.mp (I1.stkSub b z) with z | z
  ·exact absurd z (Nat.ne_of_lt (Nat.lt_of_lt_of_le (Heap.lt_size e) I1.ok.above))
  ·exact nb z
 obtain ⟨un, ok⟩ := hs_ (l := outer) I1.base I1.hok (fun b o q => PySem.W.of_hideAll _ q) x1.1 hl.2.2 ((Heap.UpToSlots.of_keeps hx.keeps).trans x4) b1 b2
 refine ⟨e, .ref C, .ref t, _, H1, rfl, I1.os, I1.bare, un, ok, x1, ?_, b1, b2, hE⟩
 cases q : s₀.heap.get? e with
 | none => rfl
 | some o =>
  obtain ⟨u, hu⟩ := I1.base.there e o q (fun z => nomatch z)
  rw [hx.new] at hu
  cases hu
end
def CalR (P : Program) (w : World) (K : PySem.W.Frag) (mg : Str → Option Value) (base : Heap) (x : Str) (ps : List Str) (k : Nat) (sp : Sp) : Prop :=
 ∃ f fd, mg x = some (.ref f) ∧ PySem.W.keepIn K (.ref f) = true ∧ Binds K fd ps [] ∧ FnOk P w K mg base (CXR P w) k f fd ps sp
theorem m8_ {P : Program} {w : World} {K : PySem.W.Frag} {mg : Str → Option Value} {base : Heap} {x : Str} {st : Stmt} {N ps : List Str} {k : Nat} {sp : Sp} (F : Fn0 K mg x st) (S : FnScope N ps (defScope st))
  (hb : ∀ (kV doc pm : Value) (an : Option Addr) (cdv ct : Value) (us : List Value), us.length = ps.length → bindArgs (PySem.W.fnOf x x (defArgs st) (defBody st) (defScope st) .none kV doc pm an cdv ct) ⟨us, []⟩ = pure (ps.zip us))
  (len : ∀ vs H Q E, sp vs H Q E → vs.length = ps.length)
  (hbody : ∀ (f : Addr) (cdv : Value) (A : Around) (outer : List Env) (s : Shared) (H : Hp) (vs : List V) (Q : VK) (E : XK), Room k (A.deeper (envOfC x (defScope st) s.heap.objs.size f cdv)) → sp vs H Q E →
   ∃ t, PSs (cxOf (CXR P w) P w K mg base N x (defScope st) f cdv A outer s H E) (defBody st) t ∧ t { nx := fun _ H' => Q .non H', rt := Q } (start N vs) H) : CalR P w K mg base x ps (k + 1) sp := by
 obtain ⟨f, fd, F, m⟩ := F
 refine ⟨f, fd, m, F.kp, F.binds hb, ?_⟩
 obtain ⟨oc, od, kV, doc, pm, an, cdv, ct, osl, rfl, lk, hcd⟩ := F.ex
 exact fn_of lk hcd S len fun A outer s H vs Q E hr hsp => hbody f cdv A outer s H vs Q E hr hsp
abbrev Cx.suite (X : Cx) (e : Value) : Cx := { X with A := X.A.mark (some e), calm := false, xe := fun _ _ => False }
section
variable {X : Cx} {pins : List (Addr × Obj)} {σ : List (Option V)} {H : Hp} {s : Shared}
theorem Inv.suite (I : Inv X pins σ H s) (e : Value) : Inv (X.suite e) pins σ H s :=
 ⟨⟨I.ok.mod, I.ok.kind, I.ok.glob, I.ok.blt, I.ok.above, I.ok.inj, I.ok.has, I.ok.cab, (fun z => nomatch z), I.ok.frames, I.ok.stk, I.ok.exf, I.ok.bs, I.ok.bsz, I.ok.noex, I.ok.exfs, I.ok.funs, I.ok.frf⟩, I.os, I.bare, I.base, I.loc, I.cell, I.free, I.freeC, I.pin, I.hok, I.len⟩
theorem Inv.unsuite {e : Value} (J : Inv (X.suite e) pins σ H s) (ok : X.Ok) : Inv X pins σ H s := ⟨ok, J.os, J.bare, J.base, J.loc, J.cell, J.free, J.freeC, J.pin, J.hok, J.len⟩
def exO (C : Value) (a : Addr) : HO := .ext fun h => ∃ o, h.get? a = some o ∧ o.cls = C
theorem n5_ {P : Program} {w : World} {fs : List Addr} {H H' : Hp} {h h2 : Heap} {ea : Addr} {C : Value} (u : Un fs [] H H' h h2) (hok : HOk P w H' h2) (new : h.get? ea = none) (hn : H' ea = none) (hob : ∃ o, h2.get? ea = some o ∧ o.cls = C) :
  Un fs [] H (upd H' ea (exO C ea)) h h2 ∧ HOk P w (upd H' ea (exO C ea)) h2 := by
 have ne : ∀ {b o}, H' b = some o → b ≠ ea := fun {b o} q z => by rw [z, hn] at q; cases q
 have ne' : ∀ {b o}, h.get? b = some o → b ≠ ea := fun {b o} q z => by rw [z, new] at q; cases q
 refine ⟨⟨u.keep, u.slot, fun b o q n hx => ?_, u.there, fun b xs q => ?_, fun b o v q => ?_, fun b ps q => ?_⟩, fun b o q => ?_⟩
 ·rw [af_ (ne' q)]; exact u.free b o q n hx
 ·have z := u.tups b xs q
  rw [af_ (ne z)]; exact z
 ·have z := u.frzs b o v q
  rw [af_ (ne z)]; exact z
 ·obtain ⟨m, z⟩ := u.tbls b ps q
  exact ⟨m, by rw [af_ (ne z)]; exact z⟩
 ·by_cases e : b = ea
  ·subst e
   rw [ac_] at q
   cases q
   obtain ⟨ob, e1, e2⟩ := hob
   exact ⟨⟨ob, e1, e2⟩, ⟨ob, e1⟩, fun h1 h2 ⟨o, a, c⟩ k => ⟨o, k o a, c⟩⟩
  ·rw [af_ e] at q
   exact (hok b o q).stay (fun _ _ _ z => z) (fun c z => by rw [af_ (ne z)]; exact z) fun c xs z => by rw [af_ (ne z)]; exact z
theorem ht_ {M : Model} {A : Around} {EE : Value → Shared → Prop} {n : Str} {pos : Pos} {i : Nat} {Q : Unit → Shared → Prop} (I : Inv X pins σ H s) (hN : X.N.Nodup) (hi : X.N[i]? = some n) (hk : X.env.scope.names.lookup n = some .local)
  (h : ∀ s', Inv X pins (σ.set i none) H s' → Q () s') : wpAny M A (do bindName X.env n .none; unbindBehindTheSuite X.env n pos) Q EE s := by
 obtain ⟨m, hn, hl⟩ := id I.loc
 have hcls : (X.env.scope.kind == .class || (X.env.scope.kind == .module && X.env.locals != X.env.globals)) = false := by rw [I.ok.kind]; rfl
 have hiσ : i < σ.length := by rw [I.len]; exact (List.getElem?_eq_some_iff.mp hi).1
 have cne := I.cne
 refine wpAny_nameGoes_keeps hk hn hcls fun h' v hn' hs => ?_
 obtain ⟨oL, _, _, hoL, _⟩ := id hn
 have old : ∀ {b o}, X.s₀.heap.get? b = some o → h'.get? b = s.heap.get? b := fun {b o} e => hs.2 b (Nat.ne_of_lt (Nat.lt_of_lt_of_le (Heap.lt_size e) I.ok.above))
 refine h _ ⟨I.ok, I.os, I.bare, ⟨fun b o e n hb hx => (old e).trans (I.base.keep b o e n hb hx), fun b o e n hb hx => ?_, I.base.free, fun b o e hx => ?_, I.base.tups, I.base.frzs, I.base.tbls⟩, ⟨_, hn', fun j y v' e1 e2 e3 => ?_⟩, fun y c e => ?_, I.free, I.freeC, fun p hp => ?_, fun b ob e => ?_, by simpa using I.len⟩
 ·obtain ⟨sl, e1⟩ := I.base.slot b o e n hb hx
  exact ⟨sl, (old e).trans e1⟩
 ·obtain ⟨o', e1⟩ := I.base.there b o e hx
  exact ⟨o', (old e).trans e1⟩
 ·by_cases hj : j = i
  ·subst hj
   rw [List.getElem?_set_self hiσ] at e2
   cases e2
  ·rw [List.getElem?_set_ne (Ne.symm hj)] at e2
   obtain ⟨u', r', q⟩ := hl j y v' e1 e2 e3
   refine ⟨u', r', ?_⟩
   rcases q with ⟨k, e⟩ | ⟨k, c, e, z⟩
   ·refine .inl ⟨k, ?_⟩
    have : y ≠ n := fun e => hj (hl_ hN e1 (e ▸ hi))
    simp [this, e]
   ·exact .inr ⟨k, c, e, z.sameBut hs (cne y c e)⟩
 ·obtain ⟨w', z⟩ := I.cell y c e
  exact ⟨w', z.sameBut hs (cne y c e)⟩
 ·obtain ⟨e, n, ne, nf, d⟩ := I.pin p hp
  exact ⟨(hs.2 p.1 ne).trans e, n, ne, nf, d⟩
 ·refine (I.hok b ob e).stay (fun c w' hc q => (hs.2 c ?_).trans q) (fun _ q => q) fun _ _ q => q
  intro z
  have z2 := I.free
  rw [← z] at z2
  rcases hc with hc | hc
  ·rw [hc, e] at z2; cases z2
  ·rw [hc] at z2; cases z2
end
structure HnC (K : PySem.W.Frag) (C : Addr) : Prop where
 ty : PySem.W.typeIn K (.ref C) = some (.type "type")
 cl : (PySem.W.clsIn K C).isSome = true
 ex : PySem.W.mroIn K C (.type "BaseException") = some true
theorem ft_ {K : PySem.W.Frag} {M : Model} {h : Heap} {C : Addr} (X : K.In h) (e : (PySem.W.clsIn K C).isSome = true) : PySem.W.Looks M h (isType (.ref C)) true := by
 unfold PySem.W.clsIn at e
 split at e
 ·rename_i ho
  intro A' Q' E' s' k q
  unfold isType loadHead
  exact wpAny_bind (wpAny_loadPart (k _ _ (X _ _ ho)) (wpAny_pure q))
 ·cases e
theorem jc_ {K : PySem.W.Frag} {prog : Program} {w : World} {A : Around} {EE : Value → Shared → Prop} {s : Shared} {ea C Py : Addr} {Q : Bool → Shared → Prop} (X : K.In s.heap) (HC : HnC K Py) (hsub : PySem.W.mroIn K C (.ref Py) = some true)
  (ho : ∃ o, s.heap.get? ea = some o ∧ o.cls = .ref C) (h : Q true s) : wpAny (model prog w) A (excMatches (.ref ea) (.ref Py)) Q EE s := by
 obtain ⟨hh, g, d, t, os⟩ := s
 obtain ⟨ob, ho, hc⟩ := ho
 have L1 := PySem.W.looks_typeIn (M := model prog w) X HC.ty
 have L2 := ft_ (M := model prog w) X HC.cl
 have L3 := PySem.W.looks_mroIn (M := model prog w) X HC.ex
 have L4 : PySem.W.Looks (model prog w) hh (typeOf (.ref ea)) (.ref C) := hc ▸ (PySem.W.Looks.ld ho).andThen .now
 have L5 := PySem.W.looks_mroIn (M := model prog w) X hsub
 have L6 : PySem.W.Looks (model prog w) hh (isSubtype (.type "type") (.type "tuple")) false := PySem.W.Looks.of_pure tc_notTuple
 unfold excMatches isInstance isExcClass
 repeat lk
 exact h
def Ends.unb (D : Ends) (i : Nat) : Ends := { nx := fun σ H => D.nx (σ.set i none) H, rt := D.rt, bk := fun σ H => D.bk (σ.set i none) H, ct := fun σ H => D.ct (σ.set i none) H }
def tTry (K : PySem.W.Frag) (Py : Addr) (sp : Sp) (ta : TA) (i : Nat) (ts : TS) : TS := fun D σ H => ta σ H fun vs H1 => sp vs H1 (fun _ _ => False) fun c _ H2 =>
 ∃ C, c = .ref C ∧ PySem.W.mroIn K C (.ref Py) = some true ∧ ∀ ea, H2 ea = none → ts (D.unb i) (σ.set i (some (.ref ea))) (upd H2 ea (exO (.ref C) ea))
theorem kq_ {X : Cx} {x : Str} {ps : List Str} {k : Nat} {sp : Sp} {E : XK} {e₀ : Expr} {es : List Expr} {ta : TA} {p cpos : Pos} {pins : List (Addr × Obj)} {σ : St} {H : Hp} {s : Shared} {EE : Value → Shared → Prop} {Q : Value → Shared → Prop}
  (C : CalR X.prog X.w X.K X.mg X.base x ps k sp) (hr : Room k X.A) (hg : Gl X x) (ha : PA (X.wish EE) (e₀ :: es) ta) (I : Inv X pins σ H s) (h : ta σ H fun vs H1 => sp vs H1 (fun _ _ => False) E)
  (hE : ∀ H1 s1 e s', Inv X pins σ H1 s1 → CXR X.prog X.w X.stack H1 s1 E e s' → EE e s') (hdb : (x == ("__debug__" : Str)) = false) (he : starEach (e₀ :: es) X.env = (false, eval e₀ X.env) :: starEach es X.env) (hpl : (backTo cpos (starEach es X.env)).any (·.1) = false) :
  wpAny (model X.prog X.w) X.A (eval (.Call (.Name x p) (e₀ :: es) [] cpos) X.env) Q EE s := by
 obtain ⟨f, fd, hm, hkp, hb, F⟩ := C
 refine wpAny_Call_Name_kw (fX_ I hg hm ?_ hdb)
 refine PySem.W.callWith_K (h₀ := X.base) I.ok.mod.kin hkp ?_ he hpl
 have z := ha cpos pins s σ H _ (I.wish EE) h
 refine thn z fun us s1 z1 => ?_
 obtain ⟨vs, H1, I1, r, q⟩ := z1
 refine ⟨I1.kIn, ?_⟩
 replace I1 : Inv X pins σ H1 s1 := I1.unwish
 have r2 : Vals (vs ++ []) (us ++ []) := r.append .nil
 have q2 : sp (vs ++ []) H1 (fun _ _ => False) E := by rw [List.append_nil]; exact q
 have hl : (us ++ []).length = ps.length := by rw [← r2.length]; exact F.len _ _ _ _ q2
 refine wpAny_call (codeAny_mono (F.run X.A X.stack s1 H1 ⟨us, []⟩ (us ++ []) (vs ++ []) _ _ hr I1.env0 (hb s1 us I1.kIn hl) r2 q2) fun res s' hq => ?_)
 cases res with
 | ok fl =>
  cases fl with
  | ret u => obtain ⟨_, _, _, _, _, _, _, z⟩ := hq; exact z.elim
  | next => exact False.elim hq
  | brk => exact False.elim hq
  | cont => exact False.elim hq
 | error e => exact hE H1 s1 e s' I1 hq
abbrev calmed (A : Around) : Around := { A with handled := none }
structure FnOkH (P : Program) (w : World) (K : PySem.W.Frag) (mg : Str → Option Value) (base : Heap) (k : Nat) (f : Addr) (fd : FuncData) (ps : List Str) (sp : Sp) : Prop where
 len : ∀ vs H Q E, sp vs H Q E → vs.length = ps.length
 run : ∀ (A : Around) (outer : List Env) (s : Shared) (H : Hp) (args : Args) (us : List Value) (vs : List V) (Q : VK) (E : XK), Room k (calmed A) → Env0 P w K mg base A outer s H → BindsTo s fd args (ps.zip us) → Vals vs us → sp vs H Q E →
  codeAny (model P w) A (.call (.ref f) args) (CR CX0 outer P w H s Q E) s
end L2
namespace L2
open PySem PySem.Spec PyProof.Rows
theorem hu_ : bootBuiltins "ValueError" = some (.type "ValueError") := by decide +kernel
theorem Room.suite {k : Nat} {A : Around} {h : Option Value} (r : Room k A) : Room k (calmed (A.mark h)) := ⟨rfl, r.dp, r.un⟩
section
variable {X : Cx} {x : Str} {ps : List Str} {k : Nat} {sp : Sp} {e : Expr} {es : List Expr} {t : TA} {p pos : Pos} {E : XK}
end
structure KitE (K : PySem.W.Frag) (C : Addr) : Prop where
 cl : (PySem.W.clsIn K C).isSome = true
 ga : PySem.W.findIn K (.ref C) "__getattribute__" = some (some (.builtin "BaseException.__getattribute__"))
 gh : PySem.W.findIn K (.ref C) "__getattr__" = some none
 at_ : PySem.W.findIn K (.ref C) "__class__" = some (some (.builtin "object.__class__"))
 get : PySem.W.specialIn K (.builtin "object.__class__") "__get__" = some (some (.builtin "getset_descriptor.__get__"))
 set : PySem.W.takesIn K (.builtin "object.__class__") = some true
 obj : PySem.W.mroIn K C (.type "object") = some true
 exc : PySem.W.mroIn K C (.type "BaseException") = some true
def ObjC (x : Addr) (D : Value) (h : Heap) : Prop := ∃ o, h.get? x = some o ∧ o.cls = D
theorem ObjC.ty {x : Addr} {D : Value} {M : Model} {h : Heap} (p : ObjC x D h) : PySem.W.Looks M h (typeOf (.ref x)) D := by
 obtain ⟨o, h1, h2⟩ := p
 exact h2 ▸ (PySem.W.Looks.ld h1).andThen .now
theorem l3_ {K : PySem.W.Frag} {prog : Program} {w : World} {A : Around} {R : Result → Shared → Prop} {s : Shared} {x D : Addr} {tp : Value} (KE : KitE K D) (X : K.In s.heap) (p : ObjC x (.ref D) s.heap) (h : R (.ok (.ret (.ref D))) s) :
  codeAny (model prog w) A (.call (.builtin "getset_descriptor.__get__") ⟨[.builtin "object.__class__", .ref x, tp], []⟩) R s := by
 obtain ⟨hp, gs, dr, tks, oss⟩ := s
 have T0 := p.ty (M := model prog w)
 have T6 := PySem.W.looks_mroIn (M := model prog w) X KE.obj
 refine codeAny_call_builtin PySem.W.KF.slot_gs.plain PySem.W.KF.entry_gs (PySem.W.KF.slot_gs.check _ _ _ _ _ _ _ _ PySem.W.KF.type_class (PySem.W.KF.args_gs _ _ _) ?_)
 unfold Builtin.«getset_descriptor.__get__» Builtin.Getset_descriptor.descrGet
 rw [PySem.W.dga_obj]
 refine wpAny_bind (wpAny_pure ?_)
 unfold Builtin.Getset_descriptor.descrGetter Builtin.Getset_descriptor.descrCheckInstance Builtin.Getset_descriptor.descrNameAndClass isInstance
 simp only [PySem.W.KF.owner_class]
 repeat lk
 refine ⟨Code.quiet_builtin _ (by decide +kernel), codeAny_builtin PySem.W.KF.entry_class ?_⟩
 unfold Builtin.«object.__class__»
 unfold shownTypeOf
 repeat lk
 exact h
theorem l4_ {K : PySem.W.Frag} {prog : Program} {w : World} {A : Around} {R : Result → Shared → Prop} {s : Shared} {x D : Addr} {tk : Tok} (KE : KitE K D) (X : K.In s.heap) (p : ObjC x (.ref D) s.heap) (h : R (.ok (.ret (.ref D))) s) :
  codeAny (model prog w) A (.call (.builtin "BaseException.__getattribute__") ⟨[.ref x, .str "__class__" tk], []⟩) R s := by
 obtain ⟨hp, gs, dr, tks, oss⟩ := s
 have T0 := p.ty (M := model prog w)
 have T3 := PySem.W.looks_findIn (M := model prog w) X KE.at_
 have T4 := PySem.W.looks_specialIn (M := model prog w) X KE.get
 have T5 := PySem.W.looks_takesIn (M := model prog w) X KE.set
 have T7 := PySem.W.looks_mroIn (M := model prog w) X KE.exc
 have kd : builtinKind "BaseException.__getattribute__" = some .slot := by decide +kernel
 have spl : splitId "BaseException.__getattribute__" = some ("BaseException", "__getattribute__") := by decide +kernel
 have ha := F.args_bexc_ga (.ref x) (.str "__class__" tk)
 refine codeAny_call_builtin F.excAttr_ValueError.ga.plain F.entry_bexc_ga ?_
 simp only [checkBuiltinCall, kd, spl]
 unfold isInstance
 repeat (first | with_reducible refine wpAny_call (l3_ KE X p ?_) | lk)
 exact h
theorem k9_ {K : PySem.W.Frag} {prog : Program} {w : World} {A : Around} {EE : Value → Shared → Prop} {s : Shared} {x D : Addr} {Q : Option Value → Shared → Prop} (KE : KitE K D) (X : K.In s.heap) (p : ObjC x (.ref D) s.heap) (h : Q (some (.ref D)) { s with toks := s.toks + 1 }) :
  wpAny (model prog w) A (getAttr? (.ref x) "__class__") Q EE s := by
 obtain ⟨hp, gs, dr, tks, oss⟩ := s
 have T0 := p.ty (M := model prog w)
 have T1 := PySem.W.looks_findIn (M := model prog w) X KE.ga
 have T2 := PySem.W.looks_findIn (M := model prog w) X KE.gh
 have f3 := F.excAttr_ValueError.ga.bind (.ref x)
 have f5 : (Value.builtin "BaseException.__getattribute__" == Value.builtin "object.__getattribute__") = false := by decide +kernel
 have f4 : ¬ (onTheHeap (Value.ref D) && Value.builtin "BaseException.__getattribute__" == Value.builtin "object.__getattribute__") = true := by rw [f5, Bool.and_false]; exact Bool.false_ne_true
 unfold getAttr? getAttrBy? getAttrBy
 refine wpAny_bind (wpAny_mkText (wpAny_bind (wpAny_attempt ?_)))
 refine wpAny_holding (wpAny_bind (T0.at (wpAny_bind (T1.at ?_))))
 dsimp only
 rw [if_neg f4]
 unfold getAttrByItsOwn
 refine wpAny_bind ?_
 show wpAny _ _ (typeLookup (Value.ref D) "__getattr__") _ _ _
 refine T2.at ?_
 refine wpAny_bind (wpAny_attempt (wpAny_holding ?_))
 show wpAny _ _ (boundAndCalled _ _ _) _ _ _
 unfold boundAndCalled
 rw [f3]
 refine wpAny_bind (wpAny_pure ?_)
 refine wpAny_call (l4_ KE X p ?_)
 refine wpAny_pure ?_
 exact wpAny_pure h
theorem hv_ {K : PySem.W.Frag} {x D : Addr} (KE : KitE K D) : PySem.W.KitX K (.ref x) (.ref D) (ObjC x (.ref D)) where
 ty := fun _ _ _ p => p.ty
 it := fun _ _ X _ => ft_ X KE.cl
 ne := fun h tp dd its n sl X htp => by
  refine Bool.eq_false_iff.mpr fun q => ?_
  have e : D = tp := Value.ref.inj (beq_iff_eq.mp q)
  subst e
  have c := KE.cl
  unfold PySem.W.clsIn at c
  split at c
  ·rename_i ho
   have z := (X _ _ ho).symm.trans htp
   cases z
  ·cases c
 ca := fun X p k => k9_ KE X p k
def rIsiX (K : PySem.W.Frag) : List V → Hp → VK → Prop := fun xs H Q => ∃ (ea C : Addr) (c : V) (b : Bool), xs = [.ref ea, c] ∧ H ea = some (exO (.ref C) ea) ∧ KitE K C ∧
 ((∃ T, c = .ty T ∧ PySem.W.kitOne K (.ref C) (.type T) = some b) ∨ (∃ D, c = .ref D ∧ PySem.W.kitOne K (.ref C) (.ref D) = some b) ∨ ∃ (tp : Addr) (ys : List Addr), c = .ref tp ∧ H tp = some (.tup (ys.map V.ref)) ∧ PySem.W.kitAny K (.ref C) (ys.map Value.ref) = some b) ∧ Q (.bl b) H
theorem ii_ : ∀ {ys : List Addr} {us : List Value}, Vals (ys.map V.ref) us → us = ys.map Value.ref
 | [], _, .nil => rfl
 | y :: ys, _, .cons r q => by
  cases (show _ = Value.ref y from r)
  rw [ii_ q]
  rfl
theorem f8_ {X : Cx} {K : PySem.W.Frag} (hK : X.K = K) : CallR X (.builtin "isinstance") (rIsiX K) := by
 subst hK
 intro pins s σ H xs us Q I r h
 obtain ⟨ea, C, c, b, rfl, he, KE, hc, q⟩ := h
 obtain ⟨u, w', rfl, rx, ry⟩ := vals2 r
 cases (show u = Value.ref ea from rx)
 have ob : ObjC ea (.ref C) s.heap := (I.hok ea _ he).1
 have fin : ∀ tk, EP X pins σ Q (.bool b) { s with toks := tk } := fun tk => ⟨.bl b, H, I.tok tk, rfl, q⟩
 rcases hc with ⟨T, rfl, e⟩ | ⟨D, rfl, e⟩ | ⟨tp, ys, rfl, ht, e⟩
 ·cases (show w' = Value.type T from ry)
  exact PySem.W.kia_one (hv_ KE) I.kIn ob e (by intro z; cases z) fin
 ·cases (show w' = Value.ref D from ry)
  exact PySem.W.kia_one (hv_ KE) I.kIn ob e (by intro z; cases z) fin
 ·cases (show w' = Value.ref tp from ry)
  obtain ⟨its, rr, ⟨⟨c0, dd, dt, sl⟩, ho, hc, n, hd⟩, hz⟩ := I.tuple (xs := ys.map V.ref) (.inl (.inl ht))
  dsimp only at hc hd
  subst hc hd
  rw [ii_ rr] at ho
  exact PySem.W.kia_tup (hv_ KE) I.kIn ob ho e (by intro z; cases z) fin
def tPar3 (i j k : Nat) (ta : TA) : TS := fun D σ H => ta σ H fun vs H1 => ∃ v w y, vs = [v, w, y] ∧ D.nx (((σ.set i (some v)).set j (some w)).set k (some y)) H1
end L2
namespace L2
open PySem PySem.Spec PyProof.Rows
def Itd (hi : Int) (n : Nat) : It := ⟨fun i _ => i < n, fun i H x H' => H' = H ∧ x = .int (hi - i), fun i _ => n ≤ i⟩
def iRngD (ta : TA) : TI := fun σ H R => ta σ H fun vs H1 => ∃ i j : Int, vs = [.int i, .int j, .int (-1)] ∧ (0 ≤ j ∧ j ≤ i ∧ i < 2 ^ 30) ∧ R (Itd i (i - j).toNat) H1
def rSlH : V → Option Int → Option Int → Hp → VK → Prop := fun x lo hi H Q => ∃ a xs, x = .ref a ∧ H a = some (.lst xs) ∧ ∀ p, H p = none → Q (.ref p) (upd H p (.lst (cutV xs lo hi)))
theorem hw_ {X : Cx} : SlR X rSlH := by
 intro pins s σ H x v vl vu lo hi sl Q I rx hs pl pu h
 obtain ⟨a, xs, e, hx, q⟩ := h
 exact m1_ pins s σ H x v vl vu lo hi sl Q I rx hs pl pu ⟨a, xs, e, .inl (.inl hx), q⟩
theorem l5_ (xs : List V) (k : Nat) (h : k ≤ xs.length) : cutV xs (some (k : Int)) none = xs.drop k := by
 unfold cutV
 rw [HT.sIx_nat, HT.sIx_none, Nat.min_eq_left h]
 exact List.take_of_length_le (by simp)
theorem mF_ (xs : List V) (k : Nat) (h : k ≤ xs.length) : cutV xs none (some (k : Int)) = xs.take k := by
 unfold cutV
 rw [HT.sIx_nat, HT.sIx_none, Nat.min_eq_left h]
 simp
end L2
namespace L2
open PySem PySem.Spec PyProof.Rows
theorem l6_ {X : Cx} {body : List Stmt} {h₀ : ExceptHandler} {hs : List ExceptHandler} {t : TS} {pos : Pos} (hb : ∀ EE, PSs (X.wish EE) body t) : PS X (.Try body (h₀ :: hs) [] [] pos) t := by
 intro pins s σ H D I h
 refine wpAny_Try_except (wpAny_mono (hb (fun _ _ => False) pins s σ H D (I.wish _) h) (fun f s1 q => ?_) fun _ _ x => x.elim)
 have q' := SP.unwish q
 cases f with
 | next => exact wpAny_execs_nil q'
 | brk => exact q'
 | cont => exact q'
 | ret u => exact q'
theorem m9_ {X : Cx} {x y n : Str} {ps : List Str} {k i : Nat} {sp : Sp} {e₀ : Expr} {es es' : List Expr} {ta : TA} {more suite : List Stmt} {b₀ : Stmt} {ts : TS} {kt : Nat} {p cpos tpos epos np hpos pos : Pos} {Py : Addr}
  (C : CalR X.prog X.w X.K X.mg X.base x ps k sp) (hr : Room k X.A) (hg : Gl X x) (hst : X.stack = X.env :: X.outer) (hfr : X.env.frame = some X.env.locals) (hy : X.mg y = some (.ref Py)) (HC : HnC X.K Py) (hgy : Gl X y)
  (hN : X.N.Nodup) (hi : X.N[i]? = some n) (hn : X.env.scope.names.lookup n = some .local) (ha : ∀ EE, PA (X.wish EE) (e₀ :: es) ta) (hs : ∀ e, PSs (X.suite e) (b₀ :: suite) ts)
  (hdb : (x == ("__debug__" : Str)) = false := by decide) (hdy : (y == ("__debug__" : Str)) = false := by decide)
  (he : starEach (e₀ :: es) X.env = (false, eval e₀ X.env) :: starEach es X.env := by rfl) (hpl : (backTo cpos (starEach es X.env)).any (·.1) = false := by rfl)
  (ht : starEach (.Call (.Name x p) (e₀ :: es) [] cpos :: es') X.env = (false, eval (.Call (.Name x p) (e₀ :: es) [] cpos) X.env) :: starEach es' X.env := by rfl) :
  PS X (.Try (.Return (some (.Tuple (.Call (.Name x p) (e₀ :: es) [] cpos :: es') kt tpos)) epos :: more) [.ExceptHandler (some (.Name y np)) (some n) (b₀ :: suite) hpos] [] [] pos) (tTry X.K Py sp ta i ts) := by
 intro pins s σ H D I h
 refine wpAny_Try_except (wpAny_execs_cons (wpAny_Return_some (wpAny_Tuple_spliced ?_)))
 rw [ht]
 show wpAny _ _ (spliced ((false, eval (.Call (.Name x p) (e₀ :: es) [] cpos) X.env) :: backTo tpos (starEach es' X.env))) _ _ s
 refine Calls.spliced_cons (kq_ C hr hg (ha _) I h ?_ hdb he hpl)
 intro H1 s1 e s' I1 hq
 ·obtain ⟨ea, C0, a0, B, H', rfl, os, bare, un, hok, fl, new, b1, b2, C, rfl, hsub, hts⟩ := hq
  have fl' : Heap.FlyingW B (X.env :: X.outer) ea (.ref C) a0 s'.heap := hst ▸ fl
  have hn' : H' ea = none := by
   cases z : H' ea with
   | none => rfl
   | some o =>
    obtain ⟨u, hu⟩ := b2 ea o z
    rw [fl.2.1] at hu
    cases hu
  refine wpAny_looks_onW (L := X.env.locals) (by rw [I.ok.frames, hst]) hfr fl' fun h₄ hd₄ sm₄ => ?_
  refine wpAny_landsW hd₄ fun h₅ fl₅ sm₅ => ?_
  obtain ⟨un5, ok5⟩ := hs_ un hok fl.1 fl₅.1 fl.2.2.1 (sm₄.trans sm₅) b1 b2
  have I5 : Inv X pins σ H' { s' with heap := h₅ } := I1.call' (s' := { s' with heap := h₅ }) os un5 ok5 bare (fun b z => nomatch z)
  refine wpAny_handleBy_cons (codeAny_handlers_test ?_) (by intro q; cases q)
  refine fX_ (X := X.suite (.ref ea)) (I5.suite _) hgy hy ?_ hdy
  refine jc_ (K := X.K) I5.kIn HC hsub fl₅.there ?_
  refine codeAny_handlers_suite_as ?_
  refine lands_againW fl₅ fun h₆ fl₆ sm₆ => ?_
  obtain ⟨un6, ok6⟩ := hs_ un hok fl.1 fl₆.1 fl.2.2.1 ((sm₄.trans sm₅).trans sm₆) b1 b2
  obtain ⟨un7, ok7⟩ := n5_ un6 ok6 new hn' fl₆.there
  have I7 : Inv X pins σ (upd H' ea (exO (.ref C) ea)) { s' with heap := h₆ } := I1.call' (s' := { s' with heap := h₆ }) os un7 ok7 bare (fun b z => nomatch z)
  refine eu_ (X := X.suite (.ref ea)) (I7.suite _) hN hi (.inl hn) (v := .ref ea) rfl (fun s₈ I8 => ?_) (.inr hn)
  refine wpAny_mono (hs (.ref ea) pins s₈ _ _ (D.unb i) I8 (hts ea hn')) (fun fw s₉ q => ?_) fun _ _ z => z.elim
  show wpAny _ _ (do bindName X.env n .none; unbindBehindTheSuite X.env n hpos) _ _ s₉
  cases fw with
  | next => obtain ⟨σ', H9, J, d⟩ := q; exact ht_ (J.unsuite I.ok) hN hi hn fun s' J' => ⟨_, _, J', d⟩
  | brk => obtain ⟨σ', H9, J, d⟩ := q; exact ht_ (J.unsuite I.ok) hN hi hn fun s' J' => ⟨_, _, J', d⟩
  | cont => obtain ⟨σ', H9, J, d⟩ := q; exact ht_ (J.unsuite I.ok) hN hi hn fun s' J' => ⟨_, _, J', d⟩
  | ret u => obtain ⟨v, σ', H9, J, rv, d⟩ := q; exact ht_ (J.unsuite I.ok) hN hi hn fun s' J' => ⟨v, _, _, J', rv, d⟩
theorem jP_ {J : It} {g : TG} {tt : TT} {te : TE} {σ : St} {H : Hp} {Q : VK} (n : Nat) (Pσ : St → Prop) (bs : Nat → Bool) (val : Nat → V) (h0 : Pσ σ) (hz : n ≤ 1000) (hgo : ∀ i H', i < n → Same H H' → J.go i H') (hst : ∀ H', Same H H' → J.stop n H')
  (hs : ∀ D i x σ' H' H'', H D = none → (∃ o, H' D = some o) → Same H H' → i < n → J.yld i H' x H'' → Pσ σ' → ∀ (Y : St → V → Hp → Prop) (R : St → Hp → Prop), (bs i = true → ∀ σ2 H3, Pσ σ2 → Same H' H3 → Y σ2 (val i) H3) → (bs i = false → ∀ σ2 H3, Pσ σ2 → Same H' H3 → R σ2 H3) →
   g x σ' H'' fun σ2 H2 => tt σ2 H2 fun b H3 => if b = true then te σ2 H3 fun v H4 => Y σ2 v H4 else R σ2 H3)
  (hd : ∀ D H', H D = none → Same H H' → H' D = some (.lst (((List.range n).filter bs).map val)) → Q (.ref D) H') : CompGo J g tt te σ H Q := by
 intro D hD
 refine ⟨fun i m σ' H' => m = n - i ∧ i ≤ n ∧ Pσ σ' ∧ Same H H' ∧ H' D = some (.lst (((List.range i).filter bs).map val)), ⟨n, by simp, Nat.zero_le _, h0, Same.new hD, ac_⟩, ?_⟩
 rintro i m σ' H' ⟨rfl, hi, hp, hs', hDD⟩
 by_cases hlt : i < n
 ·refine .inr ⟨hgo i H' hlt hs', fun σ2 H2 => Pσ σ2 ∧ Same H H2 ∧ H2 D = some (.lst (((List.range (i + 1)).filter bs).map val)), fun σ2 H2 ⟨a, b, c⟩ => ⟨n - (i + 1), by omega, rfl, hlt, a, b, c⟩, fun x H'' hy => ?_⟩
  refine hs D i x σ' H' H'' hD ⟨_, hDD⟩ hs' hlt hy hp _ _ (fun hb σ2 H3 hp2 s3 => ?_) fun hb σ2 H3 hp2 s3 => ?_
  ·refine ⟨_, s3 _ _ hDD, ?_, hp2, (hs'.trans s3).upd hD, ?_⟩
   ·rw [List.length_map]
    have := List.length_filter_le bs (List.range i)
    rw [List.length_range] at this
    exact small1000 (by omega)
   ·rw [ac_, List.range_succ, List.filter_append, List.map_append]
    simp [hb]
  ·refine ⟨hp2, hs'.trans s3, ?_⟩
   rw [List.range_succ, List.filter_append, List.map_append]
   have e : [i].filter bs = [] := by simp [hb]
   rw [e, List.map_nil, List.append_nil]
   exact s3 _ _ hDD
 ·have e : i = n := by omega
  subst e
  exact .inl ⟨hst H' hs', hd D H' hD hs' hDD⟩
end L2
namespace L2
open PySem PySem.Spec PyProof.Rows
def grow (S H H' : Hp) : Hp := fun b => match H b with | some _ => S b | none => H' b
theorem cZ_ {S H H' : Hp} {b : Addr} {o : HO} (h : H b = some o) : grow S H H' b = S b := by unfold grow; rw [h]
theorem f9_ {S H H' : Hp} {b : Addr} (h : H b = none) : grow S H H' b = H' b := by unfold grow; rw [h]
theorem bS_ {S H H' : Hp} (s : Same S H) : Same S (grow S H H') := fun b o h => by rw [cZ_ (s _ _ h)]; exact h
theorem ga_ {S H H' : Hp} (s : Same S H) (t : Same H H') : Same (grow S H H') H' := fun b o h => by
 unfold grow at h
 cases e : H b with
 | some z => rw [e] at h; exact t _ _ (s _ _ h)
 | none => rw [e] at h; exact h
theorem bM_ {S H : Hp} {a : Addr} {o : HO} (s : Same S H) (h : S a = none) : Same S (upd H a o) := fun b z e => by
 rw [af_ (ag_ e h)]; exact s _ _ e
theorem fO_ {S H : Hp} {a : Addr} {o : HO} (s : Same S H) (h : H a = none) : Same (upd S a o) (upd H a o) := fun b z e => by
 by_cases q : b = a
 ·subst q; rw [ac_] at e ⊢; exact e
 ·rw [af_ q] at e ⊢; exact s _ _ e
theorem a7_ {S H : Hp} {a : Addr} {o : HO} (s : Same S H) (h : H a = none) : Same S (upd S a o) := Same.new (s.free h)
end L2
namespace L2
open PySem PySem.Spec PyProof.Rows
def rInsert : V → List V → Hp → VK → Prop := fun x vs H Q => ∃ (l : Addr) (xs : List V) (i : Int) (y : V), x = .ref l ∧ vs = [.int i, y] ∧ H l = some (.lst xs) ∧ 0 ≤ i ∧ i.toNat ≤ xs.length ∧ xs.length < 1000 ∧ Q .non (upd H l (.lst (xs.take i.toNat ++ y :: xs.drop i.toNat)))
theorem ij_ {X : Cx} : MtM X "list.insert" rInsert := by
 intro pins s σ H x vs v us Q I rx rv h
 obtain ⟨l, xs, i, y, rfl, rfl, hH, h0, h1, h2, q⟩ := h
 cases rx
 obtain ⟨u, w, rfl, ru, rw'⟩ := rv.two
 obtain ⟨t, rfl⟩ := ru
 obtain ⟨z, its, n, r, hl, e⟩ := I.lstM hH
 refine call_meets F.slot_list_insert ⟨_, e, rfl⟩ F.entry_list_insert (F.args_list_insert_3 _ _ _) (AutoSeq1.list_insert_list_int_val_1 l its.toArray n i t w (by rw [fitsIndex_both (k := i) (by omega) (by omega)]; decide) (by rw [List.size_toArray]; omega)) ⟨e, ?_⟩
 refine ⟨.non, _, I.lset (its' := its.take i.toNat ++ w :: its.drop i.toNat) hH e ?_ ((r.take _).append (.cons rw' (r.drop _))) ?_, rfl, q⟩
 ·dsimp only
  rw [if_neg (by omega), List.size_toArray, Nat.min_eq_left (by omega)]
  simp
  exact List.take_of_length_le (by simp)
 ·have := small1000 h2
  simp
  omega
def Ite (K : PySem.W.Frag) (a : Addr) : It :=
  ⟨fun i H => ∃ xs x, SqL K H a xs ∧ xs[i]? = some x,
   fun i H v H' => ∃ T x, v = .ref T ∧ H T = none ∧ H' = upd H T (.tup [.int i, x]) ∧ (∀ xs, SqL K H a xs → xs[i]? = some x),
   fun i H => ∃ xs, SqL K H a xs ∧ xs.length ≤ i⟩
def EnumAt (e it l : Addr) (i : Nat) (h : Heap) : Prop := (∃ old, IsEnum h e it i old) ∧ h.IsListIter it l i
theorem la_ {P : Program} {w : World} {K : PySem.W.Frag} {elts : List Expr} {kt : Nat} {tpos : Pos} {e it l : Addr} (hei : e ≠ it) :
  Turn P w K (.Tuple elts kt tpos) (Ite K l) [e, it] e (EnumAt e it l) where
 mem := by simp
 obj := fun i h st b hb => by
  obtain ⟨⟨old, s1⟩, ⟨o4, s4, c4, d4⟩⟩ := st
  simp only [List.mem_cons, List.not_mem_nil, or_false] at hb
  rcases hb with rfl | rfl
  ·exact ⟨_, s1, fun v e => by cases (show Data.fields _ = Data.cell v from e)⟩
  ·exact ⟨o4, s4, fun v e => by rw [d4] at e; cases e⟩
 keep := fun i h h' st k => by
  obtain ⟨⟨old, s1⟩, s4⟩ := st
  exact ⟨⟨old, k e (by simp) _ s1⟩, s4.at fun o q => k it (by simp) o q⟩
 item := by
  intro X hP hw hK hc i pins s σ H E I hf st hg
  subst hP hw hK
  obtain ⟨xs, x, hq, hx⟩ := hg
  obtain ⟨its, rv, p1, z1⟩ := I.list hq
  obtain ⟨u, hu, ru⟩ := rv.get hx
  obtain ⟨⟨old, s1⟩, s4⟩ := id st
  refine wpAny_pyNext_enum_item s1 s4 p1.isList (x := u) (by simpa using hu) hei fun h' g1 g2 g3 g4 g5 => ?_
  refine ⟨_, rfl, wpAny_letOwnedTupleGo_enum g1 fun h'' k1 k2 => ?_⟩
  have lt : ∀ b ∈ [e, it], b < s.heap.objs.size := fun b hb => by
   simp only [List.mem_cons, List.not_mem_nil, or_false] at hb
   rcases hb with rfl | rfl
   ·exact Heap.lt_size s1
   ·obtain ⟨o, e, _⟩ := s4; exact Heap.lt_size e
  have hT : H s.heap.objs.size = none := I.hok.fresh (Nat.le_refl _)
  have I1 : Inv X pins σ (upd H s.heap.objs.size (.tup [.int i, x])) { s with heap := s.heap.push { cls := .type "tuple", data := .seq #[.int i s.toks, u] } } :=
   I.laid (t' := s.toks) (fun b u e => Heap.get?_push_of_some _ e) (Nat.le_refl _) ⟨by show 2 ≤ sizeLine; decide, [.int i s.toks, u], .cons ⟨_, rfl⟩ (.cons ru .nil), ⟨_, Heap.get?_push_size _ rfl, rfl, _, rfl⟩⟩
  have f1 : ∀ b ∈ [e, it], FpOk X pins (upd H s.heap.objs.size (.tup [.int i, x])) b := fun b hb => ⟨by rw [af_ (Nat.ne_of_lt (lt b hb))]; exact (hf b hb).1, (hf b hb).2⟩
  have I2 : Inv X pins σ (upd H s.heap.objs.size (.tup [.int i, x])) { s with heap := h'', toks := s.toks + 1 } := by
   refine Inv.turnedL (s := { s with heap := s.heap.push { cls := .type "tuple", data := .seq #[.int i s.toks, u] } }) (ch := [e, it]) (t' := s.toks + 1) I1 (fun b o hb q => ?_) f1
   simp only [List.mem_cons, List.not_mem_nil, or_false, not_or] at hb
   refine (k2.2 b hb.1).trans ?_
   by_cases hbT : b = s.heap.objs.size
   ·subst hbT
    have e' : (s.heap.push { cls := .type "tuple", data := .seq #[.int i s.toks, u] }).get? s.heap.objs.size = some o := q
    rw [Heap.get?_push_size _ rfl] at e'
    cases e'
    exact g3
   ·have hb2 : s.heap.get? b = some o := by
     have e' : (s.heap.push { cls := .type "tuple", data := .seq #[.int i s.toks, u] }).get? b = some o := q
     exact (Heap.get?_push_ne _ _ _ hbT).symm.trans e'
    exact g5 b o hb.1 hb.2 hb2
  refine ⟨.ref s.heap.objs.size, _, I2, rfl, ⟨_, x, rfl, hT, rfl, fun xs' h' => by rw [I.list_inj h' hq]; exact hx⟩, ?_, fun b hb => (f1 b hb).1⟩
  exact ⟨⟨u, k1⟩, g2.at fun o q => (k2.2 it hei.symm).trans q⟩
 done := by
  intro X hP hw hK hc i pins s σ H E I hf st hg
  subst hP hw hK
  obtain ⟨xs, hq, he⟩ := hg
  obtain ⟨its, rv, p1, z1⟩ := I.list hq
  obtain ⟨⟨old, s1⟩, s4⟩ := id st
  have l1 := rv.length
  refine wpAny_pyNext_enum_end (I.ok.hd hc) s1 s4 p1.isList (by simp; omega) fun h' k => ⟨rfl, ?_⟩
  refine Inv.turnedL (ch := [e, it]) (t' := s.toks) I (fun b o hb q => ?_) hf
  simp only [List.mem_cons, List.not_mem_nil, or_false, not_or] at hb
  exact k b o hb.2 q
 self := fun _ _ _ _ _ st h => by obtain ⟨⟨old, s1⟩, _⟩ := st; exact wpAny_pyIter_enum s1 h
def iEnum (K : PySem.W.Frag) (ta : TA) : TI := fun σ H R => ta σ H fun vs H1 => ∃ a, vs = [.ref a] ∧ (∃ xs, SqL K H1 a xs) ∧ R (Ite K a) H1
theorem na_ {X : Cx} {K : PySem.W.Frag} {elts : List Expr} {kt : Nat} {tpos : Pos} {a : Expr} {ta : TA} {p pos : Pos} (hK : X.K = K) (hg : Gl X "enumerate") (hm : X.mg "enumerate" = none) (ha : PA X [a] ta) (hs : plainArgs [a] = true := by rfl) : PI X (.Tuple elts kt tpos) (.Call (.Name "enumerate" p) [a] [] pos) (iEnum K ta) := by
 subst hK
 intro pins s σ H R I h
 have h' : notStar a = true ∧ plainArgs [] = true := by simpa [plainArgs] using hs
 refine Call_ (ev_ I hg hm ic_ (PyProof.Rows.callWith_type1 (thn (ha pos pins s σ H _ I h) fun us s1 ⟨vs, H1, I1, r1, q1⟩ => ?_) (aC_ h'.1) (bQ_ h'.2)))
 obtain ⟨l, e, ⟨xs, hx⟩, q⟩ := q1
 subst e
 obtain ⟨u1, rfl, e1⟩ := vals1 r1
 cases e1
 obtain ⟨its1, rv1, p1, z1⟩ := I1.list hx
 refine call_enumerate_list p1.isList fun h' g1 g2 g3 g4 => ?_
 have I2 : Inv X pins σ H1 { s1 with heap := h' } := I1.kept (t' := s1.toks) g4
 refine wpAny_pyIter_enum g1 ⟨_, [s1.heap.objs.size + 1, s1.heap.objs.size], _, Ite X.K l, H1, rfl, I2, la_ (Nat.succ_ne_self _), ⟨⟨_, g1⟩, g2⟩, fun b hb => ?_, q⟩
 have hb' : s1.heap.objs.size ≤ b := by
  simp only [List.mem_cons, List.not_mem_nil, or_false] at hb
  rcases hb with rfl | rfl <;> first | exact Nat.le_add_right _ _ | exact Nat.le_refl _
 exact I1.fpOk hb' (I1.hok.fresh hb')
end L2
namespace L2
open PySem PySem.Spec PyProof.Rows
end L2
namespace L2
open PySem PySem.Spec PyProof.Rows
end L2
namespace L2
open PySem PySem.Spec PyProof.Rows
end L2
namespace L2
open PySem PySem.Spec PyProof.Rows
end L2
namespace L2
open PySem PySem.Spec PyProof.Rows
end L2
namespace L2
open PySem PySem.Spec PyProof.Rows
end L2
namespace L2
open PySem PySem.Spec PyProof.Rows
end L2
namespace L2
open PySem PySem.Spec PyProof.Rows
end L2
namespace L2
open PySem PySem.Spec PyProof.Rows
end L2
namespace L2
open PySem PySem.Spec PyProof.Rows
end L2
namespace L2
open PySem PySem.Spec PyProof.Rows
section
variable {κ : Type} [DecidableEq κ]
def valV (kvs : List (κ × V)) (k : κ) : Option V := (kvs.find? fun kv => decide (kv.1 = k)).map (·.2)
def putK (kvs : List (κ × V)) (k : κ) (v : V) : List (κ × V) :=
 if (kvs.any fun kv => decide (kv.1 = k)) = true then kvs.map (fun kv => if kv.1 = k then (kv.1, v) else kv) else kvs ++ [(k, v)]
def dropK (kvs : List (κ × V)) (k : κ) : List (κ × V) := kvs.filter fun kv => decide (kv.1 ≠ k)
theorem be_ {p : κ × V} {r : List (κ × V)} {k : κ} (e : p.1 = k) : valV (p :: r) k = some p.2 := by simp [valV, List.find?_cons, e]
theorem a9_ {p : κ × V} {r : List (κ × V)} {k : κ} (e : ¬ p.1 = k) : valV (p :: r) k = valV r k := by simp [valV, List.find?_cons, e]
theorem c0_ (k : κ) : ∀ kvs : List (κ × V), (kvs.any fun kv => decide (kv.1 = k)) = (valV kvs k).isSome
 | [] => rfl
 | p :: r => by
  rw [List.any_cons]
  by_cases e : p.1 = k
  ·simp only [be_ e, decide_eq_true e, Bool.true_or, Option.isSome_some]
  ·rw [a9_ e, decide_eq_false e, Bool.false_or]; exact c0_ k r
theorem jQ_ (k j : κ) (y : V) : ∀ kvs : List (κ × V), valV (kvs.map fun kv => if kv.1 = k then (kv.1, y) else kv) j = (valV kvs j).map fun x => if j = k then y else x
 | [] => rfl
 | p :: r => by
  have ih := jQ_ k j y r
  rw [List.map_cons]
  by_cases h : p.1 = k
  ·rw [if_pos h]
   by_cases e : p.1 = j
   ·rw [be_ (p := (p.1, y)) e, be_ e, Option.map_some, if_pos (e.symm.trans h)]
   ·rw [a9_ (p := (p.1, y)) e, a9_ e, ih]
  ·rw [if_neg h]
   by_cases e : p.1 = j
   ·rw [be_ (p := p) e, be_ e, Option.map_some, if_neg (fun z => h (e.trans z))]
   ·rw [a9_ (p := p) e, a9_ e, ih]
theorem ik_ (k j : κ) (y : V) : ∀ kvs : List (κ × V), valV kvs k = none → valV (kvs ++ [(k, y)]) j = if j = k then some y else valV kvs j
 | [], _ => by
  by_cases e : k = j
  ·rw [if_pos e.symm]; exact be_ (p := (k, y)) e
  ·rw [if_neg (fun z => e z.symm)]; exact a9_ (p := (k, y)) e
 | p :: r, hn => by
  rw [List.cons_append]
  have hk : ¬ p.1 = k := fun z => by rw [be_ z] at hn; cases hn
  rw [a9_ hk] at hn
  have ih := ik_ k j y r hn
  by_cases e : p.1 = j
  ·rw [be_ e, be_ e, if_neg (fun z => hk (e.trans z))]
  ·rw [a9_ e, a9_ e, ih]
theorem eA_ (kvs : List (κ × V)) (k j : κ) (y : V) : valV (putK kvs k y) j = if j = k then some y else valV kvs j := by
 unfold putK
 by_cases a : (kvs.any fun kv => decide (kv.1 = k)) = true
 ·rw [if_pos a, jQ_]
  rw [c0_] at a
  by_cases e : j = k
  ·obtain ⟨x, hx⟩ := Option.isSome_iff_exists.mp a
   rw [if_pos e, e, hx, Option.map_some, if_pos rfl]
  ·rw [if_neg e]
   cases valV kvs j with
   | none => rfl
   | some x => rw [Option.map_some, if_neg e]
 ·rw [if_neg a]
  refine ik_ k j y kvs ?_
  rw [c0_] at a
  cases q : valV kvs k with
  | none => rfl
  | some x => rw [q] at a; exact (a rfl).elim
theorem bn_ (kvs : List (κ × V)) (k : κ) (v : V) : (putK kvs k v).length ≤ kvs.length + 1 := by
 unfold putK
 split
 ·rw [List.length_map]; omega
 ·rw [List.length_append, List.length_cons, List.length_nil]; omega
theorem l7_ {kvs : List (κ × V)} {k : κ} (v : V) (h : valV kvs k = none) : putK kvs k v = kvs ++ [(k, v)] := by
 unfold putK
 rw [c0_, h]
 exact if_neg (by decide)
theorem RelO.isSome_eq {o : Option V} {u : Option Value} (r : RelO o u) : o.isSome = u.isSome := by
 cases o with
 | none => cases u with
  | none => rfl
  | some _ => exact (show False from r).elim
 | some _ => cases u with
  | none => exact (show False from r).elim
  | some _ => rfl
theorem RelO.getD {o : Option V} {u : Option Value} {d : V} {d' : Value} (r : RelO o u) (rd : RelV d d') : RelV (o.getD d) (u.getD d') := by
 cases o with
 | none => cases u with
  | none => exact rd
  | some _ => exact (show False from r).elim
 | some _ => cases u with
  | none => exact (show False from r).elim
  | some _ => exact r
theorem KV.val {kvs : List (κ × V)} {vs : List (κ × Value)} (r : KV kvs vs) (k : κ) : RelO (valV kvs k) (valueAt vs k) := by
 unfold KV at r
 induction r with
 | nil => exact True.intro
 | @cons p q ps qs h t ih =>
  obtain ⟨h1, h2⟩ := h
  by_cases e : p.1 = k
  ·have e' : q.1 = k := h1.symm.trans e
   have b : valueAt (q :: qs) k = some q.2 := by simp [valueAt, List.find?_cons, e']
   rw [be_ e, b]; exact h2
  ·have e' : ¬ q.1 = k := fun z => e (h1.trans z)
   have b : valueAt (q :: qs) k = valueAt qs k := by simp [valueAt, List.find?_cons, e']
   rw [a9_ e, b]; exact ih
theorem KV.any {kvs : List (κ × V)} {vs : List (κ × Value)} (r : KV kvs vs) (k : κ) : (kvs.any fun kv => decide (kv.1 = k)) = vs.any fun kv => decide (kv.1 = k) := by
 unfold KV at r
 induction r with
 | nil => rfl
 | cons h t ih => rw [List.any_cons, List.any_cons, ih, h.1]
theorem KV.repl {kvs : List (κ × V)} {vs : List (κ × Value)} (r : KV kvs vs) (k : κ) {y : V} {u : Value} (ry : RelV y u) :
  KV (kvs.map fun kv => if kv.1 = k then (kv.1, y) else kv) (vs.map fun kv => if kv.1 = k then (kv.1, u) else kv) := by
 unfold KV at r ⊢
 induction r with
 | nil => exact .nil
 | @cons p q ps qs h t ih =>
  rw [List.map_cons, List.map_cons]
  refine .cons ?_ ih
  obtain ⟨h1, h2⟩ := h
  by_cases e : p.1 = k
  ·rw [if_pos e, if_pos (h1.symm.trans e)]; exact ⟨h1, ry⟩
  ·rw [if_neg e, if_neg (fun z => e (h1.trans z))]; exact ⟨h1, h2⟩
theorem KV.put {kvs : List (κ × V)} {vs : List (κ × Value)} (r : KV kvs vs) (k : κ) {y : V} {u : Value} (ry : RelV y u) : KV (putK kvs k y) (stored vs k u) := by
 unfold putK stored
 rw [r.any k]
 by_cases e : (vs.any fun kv => decide (kv.1 = k)) = true
 ·rw [if_pos e, if_pos e]; exact r.repl k ry
 ·rw [if_neg e, if_neg e]; exact Paired.snoc r ⟨rfl, ry⟩
theorem KV.drop {kvs : List (κ × V)} {vs : List (κ × Value)} (r : KV kvs vs) (k : κ) : KV (dropK kvs k) (without vs k) := by
 unfold KV at r ⊢
 unfold dropK without
 induction r with
 | nil => exact .nil
 | @cons p q ps qs h t ih =>
  obtain ⟨h1, h2⟩ := h
  rw [List.filter_cons, List.filter_cons]
  by_cases e : p.1 = k
  ·have a : ¬ decide (p.1 ≠ k) = true := by simp [e]
   have b : ¬ decide (q.1 ≠ k) = true := by simp [h1.symm.trans e]
   rw [if_neg a, if_neg b]; exact ih
  ·have e' : ¬ q.1 = k := fun z => e (h1.trans z)
   have a : decide (p.1 ≠ k) = true := by simp [e]
   have b : decide (q.1 ≠ k) = true := by simp [e']
   rw [if_pos a, if_pos b]; exact .cons ⟨h1, h2⟩ ih
theorem KV.keys {kvs : List (κ × V)} {vs : List (κ × Value)} (r : KV kvs vs) : kvs.map (·.1) = vs.map (·.1) := by
 unfold KV at r
 induction r with
 | nil => rfl
 | cons h t ih => rw [List.map_cons, List.map_cons, ih, h.1]
theorem KV.length {kvs : List (κ × V)} {vs : List (κ × Value)} (r : KV kvs vs) : kvs.length = vs.length := Paired.length r
end
theorem kV_is {P : Program} {w : World} {k : Key} {u : Value} (r : RelV (kV k) u) : (mixKind P w).is k u = true := by
 cases k with
 | inl i => obtain ⟨t, e⟩ := (show ∃ t, u = Value.int i t from r); subst e; exact i4_ P w i t
 | inr x => obtain ⟨t, e⟩ := (show ∃ t, u = Value.str x t from r); subst e; exact i5_ P w x t
theorem il_ {P : Program} {w : World} : ∀ {ks : List Key} {us : List Value}, Vals (ks.map kV) us → ItemsAre (mixKind P w) ks us
 | [], _, r => by rw [List.map_nil] at r; cases r; exact .nil
 | k :: ks, _, r => by
  rw [List.map_cons] at r
  cases r with
  | cons h t => exact .cons (kV_is h) (il_ t)
abbrev KT (H : Hp) : List (List Key × V) → List (List Key × Addr × Value) → Prop := Paired fun p q => p.1 = q.1 ∧ H q.2.1 = some (.tup (p.1.map kV)) ∧ RelV p.2 q.2.2
theorem KT.val {H : Hp} {kvs : List (List Key × V)} {xs : List (List Key × Addr × Value)} (r : KT H kvs xs) (k : List Key) : RelO (valV kvs k) ((atKey xs k).map (·.2)) := by
 induction r with
 | nil => exact True.intro
 | @cons p q ps qs h t ih =>
  obtain ⟨h1, _, h2⟩ := h
  by_cases e : p.1 = k
  ·have e' : q.1 = k := h1.symm.trans e
   have b : atKey (q :: qs) k = some q.2 := by simp [atKey, List.find?_cons, e']
   rw [be_ e, b]; exact h2
  ·have e' : ¬ q.1 = k := fun z => e (h1.trans z)
   have b : atKey (q :: qs) k = atKey qs k := by simp [atKey, List.find?_cons, e']
   rw [a9_ e, b]; exact ih
theorem KT.repl {H : Hp} {kvs : List (List Key × V)} {xs : List (List Key × Addr × Value)} (r : KT H kvs xs) (k : List Key) {y : V} {u : Value} (ry : RelV y u) :
  KT H (kvs.map fun kv => if kv.1 = k then (kv.1, y) else kv) (xs.map (putAt k u)) := by
 induction r with
 | nil => exact .nil
 | @cons p q ps qs h t ih =>
  rw [List.map_cons, List.map_cons]
  refine .cons ?_ ih
  obtain ⟨h1, h2, h3⟩ := h
  unfold putAt
  by_cases e : p.1 = k
  ·rw [if_pos e, if_pos (h1.symm.trans e)]; exact ⟨h1, h2, ry⟩
  ·rw [if_neg e, if_neg (fun z => e (h1.trans z))]; exact ⟨h1, h2, h3⟩
theorem KT.put {H : Hp} {kvs : List (List Key × V)} {xs : List (List Key × Addr × Value)} (r : KT H kvs xs) (k : List Key) {b : Addr} {y : V} {u : Value} (hb : H b = some (.tup (k.map kV))) (ry : RelV y u) :
  KT H (putK kvs k y) (storedH xs k b u) := by
 have e : (kvs.any fun kv => decide (kv.1 = k)) = (atKey xs k).isSome := by
  rw [c0_, (r.val k).isSome_eq, Option.isSome_map]
 unfold putK storedH
 rw [e]
 by_cases q : (atKey xs k).isSome = true
 ·rw [if_pos q, if_pos q]; exact r.repl k ry
 ·rw [if_neg q, if_neg q]; exact Paired.snoc r ⟨rfl, hb, ry⟩
theorem KT.keeps {H H' : Hp} {kvs : List (List Key × V)} {xs : List (List Key × Addr × Value)} (r : KT H kvs xs) (ht : ∀ b ys, H b = some (.tup ys) → H' b = some (.tup ys)) : KT H' kvs xs :=
 Paired.mapP r fun _ _ z => ⟨z.1, ht _ _ z.2.1, z.2.2⟩
section
variable {P : Program} {w : World} {H : Hp} {h : Heap} {a : Addr}
theorem rd_of {u : HO} (ok : HOk P w H h) (e : Rd H a u) : ObjOk P w H h a u := e.ok ok
theorem dk_rd {kvs : List (Key × V)} (ok : HOk P w H h) (e : Rd H a (.dK kvs)) : kvs.length ≤ sizeLine ∧ (a == sysModules) = false ∧ ∃ vs, KV kvs vs ∧ h.DictOf (mixKind P w) a vs :=
 show ObjOk P w H h a (.dK kvs) from rd_of ok e
theorem dk_of {kvs : List (Key × V)} (ok : HOk P w H h) (e : H a = some (.dK kvs)) : kvs.length ≤ sizeLine ∧ (a == sysModules) = false ∧ ∃ vs, KV kvs vs ∧ h.DictOf (mixKind P w) a vs := dk_rd ok (.inl e)
theorem im_ {ks : List Key} (ok : HOk P w H h) (e : H a = some (.tup (ks.map kV))) : (tupleKind (mixKind P w)).is h ks a := by
 obtain ⟨_, its, r, o, h1, h2, n, h3⟩ := (show ObjOk P w H h a (.tup (ks.map kV)) from ok a _ e)
 exact ⟨o, its.toArray, n, h1, h2, h3, by simpa using il_ r⟩
theorem dt_rd {kvs : List (List Key × V)} (ok : HOk P w H h) (e : Rd H a (.dT kvs)) : kvs.length ≤ sizeLine ∧ (a == sysModules) = false ∧
  ∃ xs, KT H kvs xs ∧ h.DictOfH (tupleKind (mixKind P w)) a xs := by
 obtain ⟨z, y, xs, r, o, es, ep, h1, h2, h3, h4, h5⟩ := (show ObjOk P w H h a (.dT kvs) from rd_of ok e)
 refine ⟨z, y, xs, r, o, es, ep, h1, h2, h3, h4, fun x hx => ?_, h5⟩
 have all : ∀ {l : List (List Key × V)} {m : List (List Key × Addr × Value)}, KT H l m → ∀ x ∈ m, (tupleKind (mixKind P w)).is h x.1 x.2.1 := by
  intro l m q
  induction q with
  | nil => intro x hx; exact nomatch hx
  | @cons p q ps qs hq t ih =>
   intro x hx
   rcases List.mem_cons.mp hx with e | hx
   ·subst e
    exact im_ ok (by rw [← hq.1]; exact hq.2.1)
   ·exact ih x hx
 exact all r x hx
theorem dt_of {kvs : List (List Key × V)} (ok : HOk P w H h) (e : H a = some (.dT kvs)) : kvs.length ≤ sizeLine ∧ (a == sysModules) = false ∧
  ∃ xs, KT H kvs xs ∧ h.DictOfH (tupleKind (mixKind P w)) a xs := dt_rd ok (.inl e)
end
def DGet (H : Hp) (a : Addr) (y : V) (r : Option V) : Prop :=
 (∃ kvs k, Rd H a (.dK kvs) ∧ y = kV k ∧ r = valV kvs k) ∨ ∃ kvs k b, Rd H a (.dT kvs) ∧ y = .ref b ∧ H b = some (.tup (k.map kV)) ∧ r = valV kvs k
def DPut (H : Hp) (a : Addr) (y v : V) (H' : Hp) : Prop :=
 (∃ kvs k, H a = some (.dK kvs) ∧ y = kV k ∧ kvs.length < sizeLine ∧ H' = upd H a (.dK (putK kvs k v))) ∨
 ∃ kvs k b, H a = some (.dT kvs) ∧ y = .ref b ∧ H b = some (.tup (k.map kV)) ∧ kvs.length < sizeLine ∧ H' = upd H a (.dT (putK kvs k v))
theorem DGet.k {H : Hp} {a : Addr} {kvs : List (Key × V)} {k : Key} (e : H a = some (.dK kvs)) : DGet H a (kV k) (valV kvs k) := .inl ⟨kvs, k, .inl e, rfl, rfl⟩
theorem DGet.t {H : Hp} {a b : Addr} {kvs : List (List Key × V)} {k : List Key} (e : H a = some (.dT kvs)) (eb : H b = some (.tup (k.map kV))) : DGet H a (.ref b) (valV kvs k) := .inr ⟨kvs, k, b, .inl e, rfl, eb, rfl⟩
theorem DPut.k {H : Hp} {a : Addr} {kvs : List (Key × V)} {k : Key} {v : V} (e : H a = some (.dK kvs)) (hl : kvs.length < sizeLine) : DPut H a (kV k) v (upd H a (.dK (putK kvs k v))) := .inl ⟨kvs, k, e, rfl, hl, rfl⟩
theorem DPut.t {H : Hp} {a b : Addr} {kvs : List (List Key × V)} {k : List Key} {v : V} (e : H a = some (.dT kvs)) (eb : H b = some (.tup (k.map kV))) (hl : kvs.length < sizeLine) :
  DPut H a (.ref b) v (upd H a (.dT (putK kvs k v))) := .inr ⟨kvs, k, b, e, rfl, eb, hl, rfl⟩
section
variable {X : Cx} {pins : List (Addr × Obj)} {σ : St} {H : Hp} {s : Shared} {a : Addr} {y v : V} {u r : Value} {o : Option V} {A : Around} {E : Value → Shared → Prop}
theorem Inv.big (I : Inv X pins σ H s) : sysModules < s.heap.objs.size := by
 have h : mainGlobals < s.heap.objs.size := (I.mod.glob.keeps I.bk).lt
 exact Nat.lt_trans (by decide) h
theorem lb_ {Q : Value → Shared → Prop} (hu : A.units + 1 < cLine) (I : Inv X pins σ H s) (g : DGet H a y (some v)) (ry : RelV y u) (h : ∀ w' s', Inv X pins σ H s' → RelV v w' → Q w' s') :
  wpAny (model X.prog X.w) A (getItem (.ref a) u) Q E s := by
 rcases g with ⟨kvs, k, e, ey, l⟩ | ⟨kvs, k, b, e, ey, eb, l⟩
 ·subst ey
  obtain ⟨z, hd, vs, rel, dd⟩ := dk_rd I.hok e
  obtain ⟨w', hw, rw'⟩ := RelO.some_of (v := v) (o := valueAt vs k) (by rw [l]; exact rel.val k)
  exact wpAny_getItem_of (kV_is ry) dd.mapOf hw (h w' _ (I.tok _) rw')
 ·subst ey
  cases (show u = Value.ref b from ry)
  obtain ⟨z, hd, xs, rel, dd⟩ := dt_rd I.hok e
  obtain ⟨w', hw, rw'⟩ := RelO.some_of (v := v) (o := (atKey xs k).map (·.2)) (by rw [l]; exact rel.val k)
  obtain ⟨p, hp, hp2⟩ := Option.map_eq_some_iff.mp hw
  refine wpAny_getItem_heap (tupleKind_room_in1 hu) (im_ I.hok eb) dd hp ?_
  rw [hp2]
  exact h w' _ (I.tok _) rw'
theorem d_in {Q : Value → Shared → Prop} (hu : A.units + 1 < cLine) (I : Inv X pins σ H s) (g : DGet H a y o) (ry : RelV y u) (h : ∀ s', Inv X pins σ H s' → Q (.bool o.isSome) s') :
  wpAny (model X.prog X.w) A (compareOp .In u (.ref a)) Q E s := by
 rcases g with ⟨kvs, k, e, ey, l⟩ | ⟨kvs, k, b, e, ey, eb, l⟩
 ·subst ey
  obtain ⟨z, hd, vs, rel, dd⟩ := dk_rd I.hok e
  refine wpAny_in_of (kV_is ry) hd dd.mapOf ?_
  rw [← (rel.val k).isSome_eq, ← l]
  exact h _ (I.tok _)
 ·subst ey
  cases (show u = Value.ref b from ry)
  obtain ⟨z, hd, xs, rel, dd⟩ := dt_rd I.hok e
  refine wpAny_in_heap (tupleKind_room_in1 hu) (im_ I.hok eb) hd dd ?_
  have q := (rel.val k).isSome_eq
  rw [Option.isSome_map] at q
  rw [← q, ← l]
  exact h _ (I.tok _)
theorem hx_ {h' : Heap} {t' : Nat} {ob : HO} (I : Inv X pins σ H s) (mu : Mut (H a)) (hs : Heap.SameBut a s.heap h') (he : ∃ q, h'.get? a = some q) (new : ObjOk X.prog X.w (upd H a ob) h' a ob) :
  Inv X pins σ (upd H a ob) { s with heap := h', toks := t' } :=
 I.write (x := a) (e := a) mu (.inl rfl) (fun b q hb z => (hs.2 b hb).trans z) he new
theorem lc_ {P : Program} {w : World} {H' : Hp} {h' : Heap} {kvs : List (Key × V)} {vs : List (Key × Value)} (z : kvs.length ≤ sizeLine) (hd : (a == sysModules) = false) (rel : KV kvs vs) (dd : h'.DictOf (mixKind P w) a vs) :
  ObjOk P w H' h' a (.dK kvs) := ⟨z, hd, vs, rel, dd⟩
theorem ld_ {H' : Hp} {Q : Unit → Shared → Prop} (hu : A.units + 1 < cLine) (I : Inv X pins σ H s) (g : DPut H a y v H') (ry : RelV y u) (rv : RelV v r) (h : ∀ s', Inv X pins σ H' s' → Q () s') :
  wpAny (model X.prog X.w) A (setItem (.ref a) u r) Q E s := by
 rcases g with ⟨kvs, k, e, ey, l, eH⟩ | ⟨kvs, k, b, e, ey, eb, l, eH⟩
 ·subst ey eH
  obtain ⟨z, hd, vs, rel, dd⟩ := dk_of I.hok e
  have hz : vs.length ≤ sizeLine := by rw [← rel.length]; exact z
  have hl : (putK kvs k v).length ≤ sizeLine := by have := bn_ kvs k v; omega
  refine wpAny_setItem_pairs (hsz := hz) (kV_is ry) dd fun h' dd' hs => h _ ?_
  have he : ∃ q, h'.get? a = some q := let ⟨q, _, _, hq, _⟩ := dd'; ⟨q, hq⟩
  exact hx_ I (by rw [e]; exact True.intro) hs he (lc_ hl hd (rel.put k rv) dd')
 ·subst ey eH
  cases (show u = Value.ref b from ry)
  obtain ⟨z, hd, xs, rel, dd⟩ := dt_of I.hok e
  have hz : xs.length ≤ sizeLine := by rw [← Paired.length rel]; exact z
  have hl : (putK kvs k v).length ≤ sizeLine := by have := bn_ kvs k v; omega
  refine wpAny_setItem_heap (hsz := hz) (tupleKind_room_in1 hu) (im_ I.hok eb) dd fun h' dd' hs => h _ ?_
  obtain ⟨q, es, ep, hq, h2, h3, h4, _, h5⟩ := dd'
  refine hx_ I (by rw [e]; exact True.intro) hs ⟨q, hq⟩ ⟨hl, hd, _, (rel.put k eb rv).keeps fun c ys ec => ?_, q, es, ep, hq, h2, h3, h4, h5⟩
  rw [af_ (ne_of ec e (fun z => nomatch z))]
  exact ec
end
section
variable {X : Cx} {pins : List (Addr × Obj)} {σ : St} {H : Hp} {s : Shared} {a : Addr} {kvs : List (Key × V)} {k : Key} {u : Value} {A : Around} {E : Value → Shared → Prop}
end
def NoSl (i : Expr) : Prop := ∀ ov iv, subscripted i false ov iv = operate [ov, iv] (getItem ov iv)
theorem nb_ {prog : Program} {w : World} {A : Around} {E : Value → Shared → Prop} {s : Shared} {env : Env} {value slice : Expr} {pos : Pos} {T id : String} {Q : Value → Shared → Prop}
  (hl : typeLookup (.type T) "__getitem__" = pure (some (.builtin id))) (hs : NoSl slice)
  (h : wpAny (model prog w) A (eval value env) (fun o s₁ => wpAny (model prog w) A (eval slice env) (fun i s₂ => s₂.TypeIs o T ∧ wpAny (model prog w) A (getItem o i) Q E s₂) E s₁) E s) :
  wpAny (model prog w) A (eval (.Subscript value slice pos) env) Q E s := by
 refine Subscript_ (wpAny_mono h (fun o s₁ h₁ => wpAny_mono h₁ (fun i s₂ h₂ => ?_) fun _ _ x => x) fun _ _ x => x)
 obtain ⟨hT, h₂⟩ := h₂
 unfold subscriptTail
 refine wpAny_bind ?_
 rw [getitemInPython_of_ne hT.not_modules]
 refine wpAny_bind (wpAny_specialOf hT hl ?_)
 have fin : wpAny (model prog w) A (subscripted slice false o i) (fun r s₃ => wpAny (model prog w) A (letTemporaryGo value o r >>= fun _ => pure r) Q E s₃) E s₂ := by
  rw [hs o i]
  exact wpAny_operating (wpAny_mono h₂ (fun r s₃ h₃ => wpAny_bind (wpAny_letTemporaryGo (wpAny_pure h₃))) fun _ _ x => x)
 first
  | exact wpAny_pure (wpAny_bind fin)
  | exact wpAny_bind (wpAny_pure (wpAny_bind fin))
  | exact wpAny_bind fin
theorem jd_ {X : Cx} {pins : List (Addr × Obj)} {σ : St} {H : Hp} {s : Shared} {a : Addr} {y : V} {o : Option V} (I : Inv X pins σ H s) (g : DGet H a y o) : s.TypeIs (.ref a) "dict" := by
 rcases g with ⟨kvs, k, e, _, _⟩ | ⟨kvs, k, b, e, _, _, _⟩
 ·obtain ⟨_, _, vs, _, dd⟩ := dk_rd I.hok e
  exact dd.typeIs
 ·obtain ⟨_, _, xs, _, dd⟩ := dt_rd I.hok e
  exact dd.typeIs
def tDGet (td ty : TE) : TE := fun σ H Q => td σ H fun x H1 => ty σ H1 fun y H2 => ∃ a v, x = .ref a ∧ DGet H2 a y (some v) ∧ Q v H2
def tDIn (ty td : TE) : TE := fun σ H Q => ty σ H fun y H1 => td σ H1 fun x H2 => ∃ a o, x = .ref a ∧ DGet H2 a y o ∧ Q (.bl o.isSome) H2
def tDNotIn (ty td : TE) : TE := fun σ H Q => ty σ H fun y H1 => td σ H1 fun x H2 => ∃ a o, x = .ref a ∧ DGet H2 a y o ∧ Q (.bl (!o.isSome)) H2
def sDPut (td ty tv : TE) : TS := fun D σ H => tv σ H fun v H1 => td σ H1 fun x H2 => ty σ H2 fun y H3 => ∃ a H4, x = .ref a ∧ DPut H3 a y v H4 ∧ D.nx σ H4
section
variable {X : Cx} {o i e value : Expr} {pos pos' tpos : Pos} {td ty tv : TE}
theorem ea_ (hu : X.A.units + 1 < cLine) (ho : PE X o td) (hi : PE X i ty) (hs : NoSl i) : PE X (.Subscript o i pos) (tDGet td ty) := by
 intro pins s σ H Q I h
 refine nb_ PySem.F.slot_dict_getitem.lookup hs (thn (ho pins s σ H _ I h) fun u s1 ⟨x, H1, I1, rx, q1⟩ => thn (hi pins s1 σ H1 _ I1 q1) fun iv s2 ⟨y, H2, I2, ry, a, v, ex, g, q2⟩ => ?_)
 subst ex
 obtain rfl : u = Value.ref a := rx
 exact ⟨jd_ I2 g, lb_ hu I2 g ry fun w' s3 I3 rw' => ⟨v, H2, I3, rw', q2⟩⟩
theorem n6_ (hu : X.A.units + 1 < cLine) (hi : PE X i ty) (ho : PE X o td) : PC X .In i o (tDIn ty td) := by
 intro pins s σ H Q I h
 refine thn (hi pins s σ H _ I h) fun iv s1 ⟨y, H1, I1, ry, q1⟩ => thn (ho pins s1 σ H1 _ I1 q1) fun u s2 ⟨x, H2, I2, rx, a, ov, ex, g, q2⟩ => ?_
 subst ex
 obtain rfl : u = Value.ref a := rx
 exact d_in hu I2 g ry fun s3 I3 => ⟨.bl ov.isSome, H2, I3, rfl, q2⟩
theorem gb_ (hu : X.A.units + 1 < cLine) (ho : PE X o td) (hi : PE X i ty) (hv : PE X value tv) (hs : swapsWith value (some (.Subscript o i pos')) pos.line X.env = pure false) :
  PS X (.Assign [.Subscript o i pos'] value pos) (sDPut td ty tv) := by
 intro pins s σ H D I h
 refine wpAny_Assign_Subscript (thn (hv pins s σ H _ I h) fun r s1 ⟨v, H1, I1, rv, q1⟩ => thn (ho pins s1 σ H1 _ I1 q1) fun u s2 ⟨x, H2, I2, rx, q2⟩ => thn (hi pins s2 σ H2 _ I2 q2) fun iv s3 ⟨y, H3, I3, ry, a, H4, ex, g, q3⟩ => ?_) hs
 subst ex
 obtain rfl : u = Value.ref a := rx
 exact ld_ hu I3 g ry rv fun s4 I4 => ⟨σ, H4, I4, q3⟩
end
theorem l8_ {P : Program} {w : World} {H : Hp} (h : Heap) (hb : sysModules < h.objs.size) : ObjOk P w H (h.push { cls := .type "dict", data := .dict #[] }) h.objs.size (.dK []) :=
 ⟨Nat.zero_le _, beq_eq_false_iff_ne.mpr (Ne.symm (Nat.ne_of_lt hb)), [], .nil, Heap.DictOf.new h⟩
theorem l9_ {P : Program} {w : World} {H : Hp} (h : Heap) (hb : sysModules < h.objs.size) : ObjOk P w H (h.push { cls := .type "dict", data := .dict #[] }) h.objs.size (.dT []) :=
 ⟨Nat.zero_le _, beq_eq_false_iff_ne.mpr (Ne.symm (Nat.ne_of_lt hb)), [], .nil, _, #[], 0, Heap.get?_push_size _ rfl, ⟨rfl, rfl, rfl⟩, rfl, rfl, List.nodup_nil⟩
def tDNewK : TE := fun _ H Q => ∀ p, H p = none → Q (.ref p) (upd H p (.dK []))
def tDNewT : TE := fun _ H Q => ∀ p, H p = none → Q (.ref p) (upd H p (.dT []))
section
variable {X : Cx} {pos : Pos}
theorem hy_ : PE X (.Dict [] [] pos) tDNewK := fun pins s σ H Q I h =>
 wpAny_Dict_empty ⟨.ref s.heap.objs.size, _, I.laid (a := s.heap.objs.size) (o := .dK []) (t' := s.toks) (fun _ _ q => Heap.get?_push_of_some _ q) (Nat.le_refl _) (l8_ s.heap I.big), rfl, h _ (I.hok.fresh (Nat.le_refl _))⟩
theorem jR_ : PE X (.Dict [] [] pos) tDNewT := fun pins s σ H Q I h =>
 wpAny_Dict_empty ⟨.ref s.heap.objs.size, _, I.laid (a := s.heap.objs.size) (o := .dT []) (t' := s.toks) (fun _ _ q => Heap.get?_push_of_some _ q) (Nat.le_refl _) (l9_ s.heap I.big), rfl, h _ (I.hok.fresh (Nat.le_refl _))⟩
end
def mergeK (kvs more : List (Key × V)) : List (Key × V) := more.foldl (fun acc kv => putK acc kv.1 kv.2) kvs
theorem KV.merge : ∀ {more : List (Key × V)} {rs : List (Key × Value)} {kvs : List (Key × V)} {vs : List (Key × Value)}, KV more rs → KV kvs vs → KV (mergeK kvs more) (merged vs rs) := by
 intro more rs kvs vs r
 unfold KV at r
 induction r generalizing kvs vs with
 | nil => intro q; exact q
 | @cons p q ps qs h t ih =>
  intro r0
  have e : KV (putK kvs p.1 p.2) (stored vs q.1 q.2) := by
   have := r0.put p.1 h.2
   rw [← h.1]; exact this
  exact ih e
structure M1 (X : Cx) (o : Expr) (m : Str) (apos : Pos) (e : Expr) (cpos : Pos) : Prop where
 base : attributeBase o m X.env (eval o X.env) = eval o X.env
 few : ((backTo cpos (starEach [e] X.env)).all (fun x => !x.1) && (backToKw cpos (keywordEach [] X.env)).all (fun x => x.1.isSome)
  && decide (([e] : List Expr).length + ([] : List Keyword).length + (if ([] : List Keyword).isEmpty then 0 else 1) < 30)) = true
 line : (apos.endLine == cpos.line) = true
 trees : backTo cpos (starEach [e] X.env) = [(false, eval e X.env)]
structure M2 (X : Cx) (o : Expr) (m : Str) (apos : Pos) (e f : Expr) (cpos : Pos) : Prop where
 base : attributeBase o m X.env (eval o X.env) = eval o X.env
 few : ((backTo cpos (starEach [e, f] X.env)).all (fun x => !x.1) && (backToKw cpos (keywordEach [] X.env)).all (fun x => x.1.isSome)
  && decide (([e, f] : List Expr).length + ([] : List Keyword).length + (if ([] : List Keyword).isEmpty then 0 else 1) < 30)) = true
 line : (apos.endLine == cpos.line) = true
 trees : backTo cpos (starEach [e, f] X.env) = [(false, eval e X.env), (false, eval f X.env)]
def IsD (H : Hp) (a : Addr) : Prop := (∃ kvs, Rd H a (.dK kvs)) ∨ ∃ kvs, Rd H a (.dT kvs)
theorem n7_ {X : Cx} {pins : List (Addr × Obj)} {σ : St} {H : Hp} {s : Shared} {a : Addr} (I : Inv X pins σ H s) (d : IsD H a) :
  s.TypeIs (.ref a) "dict" ∧ (∀ b, Value.ref a = .ref b → ∃ ob, s.heap.get? b = some ob ∧ ob.dict = none) ∧ (a == sysModules) = false := by
 rcases d with ⟨kvs, e⟩ | ⟨kvs, e⟩
 ·obtain ⟨_, hd, vs, _, dd⟩ := dk_rd I.hok e
  refine ⟨dd.typeIs, fun b q => ?_, hd⟩
  cases q
  obtain ⟨ob, _, _, h1, h2, _⟩ := dd
  exact ⟨ob, h1, h2.2.1⟩
 ·obtain ⟨_, hd, xs, _, dd⟩ := dt_rd I.hok e
  refine ⟨dd.typeIs, fun b q => ?_, hd⟩
  cases q
  obtain ⟨ob, _, _, h1, h2, _⟩ := dd
  exact ⟨ob, h1, h2.2.1⟩
section
variable {X : Cx} {pins : List (Addr × Obj)} {σ : St} {H : Hp} {s : Shared} {a : Addr} {y d : V} {u r : Value} {o : Option V} {A : Around} {E : Value → Shared → Prop}
theorem n8_ {Q : Value → Shared → Prop} (hu : A.units + 1 < cLine) (I : Inv X pins σ H s) (g : DGet H a y o) (ry : RelV y u) (rd : RelV d r) (h : ∀ w' s', Inv X pins σ H s' → RelV (o.getD d) w' → Q w' s') :
  wpAny (model X.prog X.w) A (call (.builtin "dict.get") [.ref a, u, r]) Q E s := by
 rcases g with ⟨kvs, k, e, ey, l⟩ | ⟨kvs, k, b, e, ey, eb, l⟩
 ·subst ey
  obtain ⟨z, hd, vs, rel, dd⟩ := dk_rd I.hok e
  refine call_meetsIn PySem.F.slot_dict_get dd.typeIs PySem.F.entry_dict_get (PySem.F.args_dict_get_3 _ _ _) (meets_dict_get_default (mixKind X.prog X.w) a (kV_is ry) hd r) ⟨_, dd.mapOf, h _ _ (I.tok _) ?_⟩
  rw [l]
  exact (rel.val k).getD rd
 ·subst ey
  cases (show u = Value.ref b from ry)
  obtain ⟨z, hd, xs, rel, dd⟩ := dt_rd I.hok e
  refine call_meetsIn PySem.F.slot_dict_get dd.typeIs PySem.F.entry_dict_get (PySem.F.args_dict_get_3 _ _ _) (meetsH_dict_get_default (tupleKind (mixKind X.prog X.w)) a b hd r) ⟨tupleKind_room_in1 hu, k, xs, im_ I.hok eb, dd, h _ _ (I.tok _) ?_⟩
  rw [l]
  exact (rel.val k).getD rd
end
def tDGet2 (td ty tx : TE) : TE := fun σ H Q => td σ H fun x H1 => ∃ a, x = .ref a ∧ IsD H1 a ∧ ty σ H1 fun y H2 => tx σ H2 fun z H3 => ∃ o, DGet H3 a y o ∧ Q (o.getD z) H3
section
variable {X : Cx} {o e f : Expr} {apos cpos : Pos} {td ty tx : TE}
theorem hz_ (hu : X.A.units + 1 < cLine) (ho : PE X o td) (he : PE X e ty) (hf : PE X f tx) (m : M2 X o "get" apos e f cpos) : PE X (.Call (.Attribute o "get" apos) [e, f] [] cpos) (tDGet2 td ty tx) := by
 intro pins s σ H Q I h
 refine wpAny_Call_method m.base m.few m.line PySem.F.plainAttrs_dict PySem.F.slot_dict_get PySem.F.type_dict_get (thn (ho pins s σ H _ I h) fun u s1 ⟨x, H1, I1, rx, a, ex, d, q1⟩ => ?_)
 subst ex
 obtain rfl : u = Value.ref a := rx
 obtain ⟨t1, t2, _⟩ := n7_ I1 d
 refine ⟨t1, t2, ?_⟩
 rw [m.trees]
 refine Calls.callWith_builtin rfl (Calls.evalArgs_plain (Calls.spliced_cons (thn (he pins s1 σ H1 _ I1 q1) fun iv s2 ⟨y, H2, I2, ry, q2⟩ =>
  Calls.spliced_cons (thn (hf pins s2 σ H2 _ I2 q2) fun fv s3 ⟨z, H3, I3, rz, ov, g, q3⟩ => Calls.spliced_nil ?_))))
 exact n8_ hu I3 g ry rz fun w' s4 I4 rw' => ⟨_, H3, I4, rw', q3⟩
end
section
variable {X : Cx} {pins : List (Addr × Obj)} {σ : St} {H : Hp} {s : Shared} {a : Addr} {kvs : List (Key × V)} {A : Around} {E : Value → Shared → Prop}
end
section
variable {X : Cx} {pins : List (Addr × Obj)} {σ : St} {H : Hp} {s : Shared} {a : Addr} {y : V} {u : Value} {A : Around} {E : Value → Shared → Prop}
end
end L2
namespace Att
open PySem PySem.W PySem.Calls PyProof.Rows
end Att
namespace L2
open PySem PySem.Spec PyProof.Rows
end L2
namespace L2
open PySem PySem.Spec PyProof.Rows
end L2
namespace L2
open PySem PySem.Spec PyProof.Rows
section
variable {X : Cx}
end
section
variable {κ : Type} [DecidableEq κ]
theorem nc_ {kvs : List (κ × V)} {k : κ} {v : V} (h : valV kvs k = some v) : k ∈ kvs.map (·.1) := by
 have q : (kvs.any fun kv => decide (kv.1 = k)) = true := by
  rw [c0_, h]
  all_goals rfl
 obtain ⟨p, hp, e⟩ := List.any_eq_true.mp q
 exact List.mem_map.mpr ⟨p, hp, of_decide_eq_true e⟩
end
end L2
namespace RimD
def su : Nat → (Nat → Int) → Int
 | 0, _ => 0
 | n + 1, f => su n f + f n
def sg (k : Nat) : Int := if k % 2 = 0 then 1 else -1
def sk (k j : Nat) : Nat := if j < k then j else j + 1
abbrev Mat := Nat → Nat → Int
def mi (A : Mat) (k : Nat) : Mat := fun i j => A (i + 1) (sk k j)
def D : Nat → Mat → Int
 | 0, _ => 1
 | n + 1, A => su (n + 1) fun k => sg k * A 0 k * D n (mi A k)
end RimD
namespace RimD
def gi (r : List Int) (j : Nat) : Int := r.getD j 0
def ma (rows : List (List Int)) : Mat := fun i j => gi (rows.getD i []) j
structure Rect (w : Nat) (rows : List (List Int)) : Prop where
 w : ∀ r ∈ rows, r.length = w
theorem Rect.at {w : Nat} {rows : List (List Int)} (h : Rect w rows) {i : Nat} (hi : i < rows.length) : (rows.getD i []).length = w := by
 rw [List.getD_eq_getElem?_getD, List.getElem?_eq_getElem hi]
 exact h.w _ (List.getElem_mem _)
end RimD
namespace RimM
def nf (t b : Int) : Int × Int := if b < 0 then (t / -(Int.gcd t b : Int), b / -(Int.gcd t b : Int)) else (t / (Int.gcd t b : Int), b / (Int.gcd t b : Int))
theorem gpos {t b : Int} (hb : b ≠ 0) : 0 < (Int.gcd t b : Int) := by
 have := Int.gcd_pos_of_ne_zero_right t hb
 omega
theorem mG_ {t b : Int} (h : b < 0) : nf t b = nf (-t) (-b) := by
 have e : Int.gcd (-t) (-b) = Int.gcd t b := by rw [Int.gcd_neg, Int.neg_gcd]
 unfold nf
 rw [if_pos h, if_neg (by omega), e, Int.ediv_neg, Int.ediv_neg, Int.neg_ediv_of_dvd (Int.gcd_dvd_left ..), Int.neg_ediv_of_dvd (Int.gcd_dvd_right ..)]
theorem jS_ {t b : Int} (h : 0 < b) : nf t b = (t / (Int.gcd t b : Int), b / (Int.gcd t b : Int)) := by
 unfold nf
 rw [if_neg (by omega)]
structure Low (p : Int × Int) : Prop where
 pos : 0 < p.2
 co : Int.gcd p.1 p.2 = 1
theorem in_ {t b : Int} (hb : b ≠ 0) : Low (nf t b) ∧ t * (nf t b).2 = (nf t b).1 * b := by
 have key : ∀ {t b : Int}, 0 < b → Low (nf t b) ∧ t * (nf t b).2 = (nf t b).1 * b := fun {t b} h => by
  have g := gpos (t := t) (b := b) (by omega)
  rw [jS_ h]
  refine ⟨⟨Int.ediv_pos_of_pos_of_dvd h (Int.le_of_lt g) (Int.gcd_dvd_right ..), Int.gcd_ediv_gcd_ediv_gcd (by omega)⟩, ?_⟩
  show t * (b / (Int.gcd t b : Int)) = t / (Int.gcd t b : Int) * b
  obtain ⟨x, hx⟩ := Int.gcd_dvd_left (a := t) (b := b)
  obtain ⟨y, hy⟩ := Int.gcd_dvd_right (a := t) (b := b)
  have e1 : t / (Int.gcd t b : Int) = x := by
   conv => lhs; arg 1; rw [hx]
   exact Int.mul_ediv_cancel_left _ (by omega)
  have e2 : b / (Int.gcd t b : Int) = y := by
   conv => lhs; arg 1; rw [hy]
   exact Int.mul_ediv_cancel_left _ (by omega)
  rw [e1, e2]
  conv => lhs; arg 1; rw [hx]
  conv => rhs; arg 2; rw [hy]
  rw [Int.mul_assoc, Int.mul_left_comm]
 rcases Int.lt_or_lt_of_ne hb with h | h
 ·rw [mG_ h]
  obtain ⟨a, e⟩ := key (t := -t) (b := -b) (by omega)
  refine ⟨a, ?_⟩
  rw [Int.neg_mul, Int.mul_neg] at e
  omega
 ·exact key h
theorem mH_ {k n m : Int} (h : k ∣ n * m) (g : Int.gcd k n = 1) : k ∣ m := by
 have := Int.dvd_gcd_mul_iff_dvd_mul.mpr h
 rw [g] at this
 simpa using this
theorem n9_ {p q : Int × Int} (hp : Low p) (hq : Low q) (h : p.1 * q.2 = q.1 * p.2) : p = q := by
 have d1 : p.2 ∣ q.2 := by
  have : p.2 ∣ p.1 * q.2 := ⟨q.1, by rw [h, Int.mul_comm]⟩
  exact mH_ this (by rw [Int.gcd_comm]; exact hp.co)
 have d2 : q.2 ∣ p.2 := by
  have : q.2 ∣ q.1 * p.2 := ⟨p.1, by rw [← h, Int.mul_comm]⟩
  exact mH_ this (by rw [Int.gcd_comm]; exact hq.co)
 have e : p.2 = q.2 := Int.dvd_antisymm (Int.le_of_lt hp.pos) (Int.le_of_lt hq.pos) d1 d2
 have e1 : p.1 = q.1 := by
  rw [e] at h
  exact Int.eq_of_mul_eq_mul_right (by have := hq.pos; omega) h
 exact Prod.ext e1 e
theorem nf_eq {t b t' b' : Int} (hb : b ≠ 0) (hb' : b' ≠ 0) (h : t * b' = t' * b) : nf t b = nf t' b' := by
 obtain ⟨l, e⟩ := in_ (t := t) hb
 obtain ⟨l', e'⟩ := in_ (t := t') hb'
 refine n9_ l l' ?_
 have : ((nf t b).1 * (nf t' b').2) * (b * b') = ((nf t' b').1 * (nf t b).2) * (b * b') := by
  calc ((nf t b).1 * (nf t' b').2) * (b * b') = ((nf t b).1 * b) * ((nf t' b').2 * b') := by ac_rfl
   _ = (t * (nf t b).2) * ((nf t' b').2 * b') := by rw [e]
   _ = (t * b') * ((nf t b).2 * (nf t' b').2) := by ac_rfl
   _ = (t' * b) * ((nf t b).2 * (nf t' b').2) := by rw [h]
   _ = (t' * (nf t' b').2) * ((nf t b).2 * b) := by ac_rfl
   _ = ((nf t' b').1 * b') * ((nf t b).2 * b) := by rw [e']
   _ = ((nf t' b').1 * (nf t b).2) * (b * b') := by ac_rfl
 exact Int.eq_of_mul_eq_mul_right (Int.mul_ne_zero hb hb') this
theorem io_ {p : Int × Int} (h : Low p) : nf p.1 p.2 = p := by
 rw [jS_ h.pos, h.co]
 simp
end RimM
namespace RimD
open RimM
end RimD
namespace RimT
variable {α : Type} [DecidableEq α]
def rowE (p : Nat) : Nat → List α → List ((Nat × Nat) × α)
 | _, [] => []
 | k, w :: l => ((p, k), w) :: rowE p (k + 1) l
def endsF : Nat → List (List α) → List ((Nat × Nat) × α)
 | _, [] => []
 | o, l :: T => rowE o 0 l ++ endsF (o + 1) T
abbrev ends (T : List (List α)) := endsF 0 T
def wi (T : List (List α)) (e : Nat × Nat) : Option α := (T.getD e.1 [])[e.2]?
theorem fP_ {p : Nat} {e : Nat × Nat} {w : α} : ∀ {l : List α} {k : Nat}, (e, w) ∈ rowE p k l ↔ e.1 = p ∧ k ≤ e.2 ∧ l[e.2 - k]? = some w
 | [], k => by simp [rowE]
 | a :: l, k => by
  rw [rowE, List.mem_cons, fP_]
  constructor
  ·rintro (h | ⟨h1, h2, h3⟩)
   ·cases h; simp
   ·refine ⟨h1, by omega, ?_⟩
    rw [show e.2 - k = (e.2 - (k + 1)) + 1 by omega, List.getElem?_cons_succ]
    exact h3
  ·rintro ⟨h1, h2, h3⟩
   by_cases z : e.2 = k
   ·left
    rw [z, Nat.sub_self, List.getElem?_cons_zero] at h3
    cases h3
    exact Prod.ext (Prod.ext h1 z) rfl
   ·right
    refine ⟨h1, by omega, ?_⟩
    rw [show e.2 - k = (e.2 - (k + 1)) + 1 by omega, List.getElem?_cons_succ] at h3
    exact h3
theorem gc_ {e : Nat × Nat} {w : α} : ∀ {T : List (List α)} {o : Nat}, (e, w) ∈ endsF o T ↔ o ≤ e.1 ∧ (T.getD (e.1 - o) [])[e.2]? = some w
 | [], o => by simp [endsF]
 | l :: T, o => by
  rw [endsF, List.mem_append, fP_, gc_]
  constructor
  ·rintro (⟨h1, h2, h3⟩ | ⟨h1, h2⟩)
   ·refine ⟨by omega, ?_⟩
    rw [h1, Nat.sub_self]
    exact h3
   ·refine ⟨by omega, ?_⟩
    rw [show e.1 - o = (e.1 - (o + 1)) + 1 by omega]
    exact h2
  ·rintro ⟨h1, h2⟩
   by_cases z : e.1 = o
   ·left
    rw [z, Nat.sub_self] at h2
    exact ⟨z, by omega, h2⟩
   ·right
    refine ⟨by omega, ?_⟩
    rw [show e.1 - o = (e.1 - (o + 1)) + 1 by omega] at h2
    exact h2
theorem hA_ {T : List (List α)} {e : Nat × Nat} {w : α} : (e, w) ∈ ends T ↔ wi T e = some w := by
 unfold ends
 rw [gc_]
 simp [wi]
theorem jT_ (p : Nat) : ∀ (l : List α) (k : Nat), (rowE p k l).map (·.2) = l
 | [], _ => rfl
 | a :: l, k => by rw [rowE, List.map_cons, jT_ p l]
theorem gd_ : ∀ (T : List (List α)) (o : Nat), (endsF o T).map (·.2) = T.flatten
 | [], _ => rfl
 | l :: T, o => by rw [endsF, List.map_append, jT_, gd_ T, List.flatten_cons]
theorem g2_ (p : Nat) : ∀ (l : List α) (k : Nat), ((rowE p k l).map (·.1)).Nodup
 | [], _ => List.nodup_nil
 | a :: l, k => by
  rw [rowE, List.map_cons, List.nodup_cons]
  refine ⟨fun h => ?_, g2_ p l (k + 1)⟩
  obtain ⟨⟨e, w⟩, he, q⟩ := List.mem_map.mp h
  have := (fP_.mp he).2.1
  dsimp only at q
  rw [q] at this
  dsimp only at this
  omega
theorem ge_ : ∀ (T : List (List α)) (o : Nat), ((endsF o T).map (·.1)).Nodup
 | [], _ => List.nodup_nil
 | l :: T, o => by
  rw [endsF, List.map_append, List.nodup_append]
  refine ⟨g2_ o l 0, ge_ T (o + 1), fun a ha b hb e => ?_⟩
  subst e
  obtain ⟨⟨e, w⟩, he, q⟩ := List.mem_map.mp ha
  obtain ⟨⟨e', w'⟩, he', q'⟩ := List.mem_map.mp hb
  have h1 := (fP_.mp he).1
  have h2 := (gc_.mp he').1
  dsimp only at q q'
  rw [q] at h1
  rw [q'] at h2
  omega
theorem fu_ (w : α) : ∀ l : List ((Nat × Nat) × α), (l.map (·.2)).count w = (l.filter fun x => decide (x.2 = w)).length
 | [] => rfl
 | a :: l => by
  rw [List.map_cons, List.count_cons, fu_ w l, List.filter_cons]
  by_cases h : a.2 = w
  ·simp [h]
  ·simp [h]
theorem jU_ {T : List (List α)} {w : α} (h : T.flatten.count w = 2) : ∃ a b, (ends T).filter (fun x => decide (x.2 = w)) = [(a, w), (b, w)] ∧ a ≠ b ∧ ∀ e, wi T e = some w ↔ e = a ∨ e = b := by
 have hl : ((ends T).filter fun x => decide (x.2 = w)).length = 2 := by rw [← fu_, gd_]; exact h
 have nd : (((ends T).filter fun x => decide (x.2 = w)).map (·.1)).Nodup := (ge_ T 0).sublist (List.Sublist.map _ List.filter_sublist)
 have mem : ∀ x, x ∈ (ends T).filter (fun x => decide (x.2 = w)) ↔ wi T x.1 = some w ∧ x.2 = w := fun x => by
  rw [List.mem_filter, decide_eq_true_eq]
  constructor
  ·rintro ⟨h1, h2⟩
   refine ⟨?_, h2⟩
   rw [← hA_, ← h2]
   exact h1
  ·rintro ⟨h1, h2⟩
   refine ⟨?_, h2⟩
   rw [← hA_, ← h2] at h1
   exact h1
 generalize (ends T).filter (fun x => decide (x.2 = w)) = f at hl nd mem
 match f, hl with
 | [a, b], _ =>
  have ha := (mem a).mp (by simp)
  have hb := (mem b).mp (by simp)
  refine ⟨a.1, b.1, ?_, ?_, fun e => ⟨fun he => ?_, ?_⟩⟩
  ·rw [show (a.1, w) = a from Prod.ext rfl ha.2.symm, show (b.1, w) = b from Prod.ext rfl hb.2.symm]
  ·simp at nd; exact nd
  ·have := (mem (e, w)).mpr ⟨he, rfl⟩
   rcases List.mem_cons.mp this with z | z
   ·exact .inl (by rw [← z])
   ·exact .inr (by rw [← List.mem_singleton.mp z])
  ·rintro (rfl | rfl)
   ·exact ha.1
   ·exact hb.1
def Tw (T : List (List α)) : Prop := ∀ w, w ∈ T.flatten → T.flatten.count w = 2
theorem mI_ {T : List (List α)} {e : Nat × Nat} {w : α} (h : wi T e = some w) : w ∈ T.flatten := by
 rw [← gd_ T 0]
 exact List.mem_map.mpr ⟨_, hA_.mpr h, rfl⟩
def Mate (T : List (List α)) (a b : Nat × Nat) : Prop := a ≠ b ∧ ∃ w, wi T a = some w ∧ wi T b = some w
theorem Mate.symm {T : List (List α)} {a b : Nat × Nat} (h : Mate T a b) : Mate T b a := ⟨fun e => h.1 e.symm, h.2.elim fun w q => ⟨w, q.2, q.1⟩⟩
theorem nd_ {T : List (List α)} (h : Tw T) {a : Nat × Nat} {w : α} (ha : wi T a = some w) : ∃ b, Mate T a b := by
 obtain ⟨x, y, _, ne, all⟩ := jU_ (h w (mI_ ha))
 rcases (all a).mp ha with e | e
 ·exact ⟨y, e ▸ ne, w, ha, (all y).mpr (.inr rfl)⟩
 ·exact ⟨x, fun z => ne (by rw [← z, e]), w, ha, (all x).mpr (.inl rfl)⟩
theorem fQ_ {T : List (List α)} (h : Tw T) {a b c : Nat × Nat} (hb : Mate T a b) (hc : Mate T a c) : b = c := by
 obtain ⟨n1, w, a1, b1⟩ := hb
 obtain ⟨n2, w', a2, c2⟩ := hc
 rw [a1] at a2
 cases a2
 obtain ⟨x, y, _, ne, all⟩ := jU_ (h w (mI_ a1))
 rcases (all a).mp a1 with e | e <;> rcases (all b).mp b1 with e1 | e1 <;> rcases (all c).mp c2 with e2 | e2 <;> subst e <;> subst e1 <;> subst e2 <;> first | rfl | exact absurd rfl n1 | exact absurd rfl n2
def rl (T : List (List α)) (p : Nat) : Nat := (T.getD p []).length
def IsC (T : List (List α)) (P : Nat) (c : Nat × Nat) : Prop := c.1 < T.length ∧ c.2 < rl T c.1 + (if c.1 < P then 1 else 0)
theorem ne_ {T : List (List α)} {e : Nat × Nat} (h : e.2 < rl T e.1) : ∃ w, wi T e = some w := ⟨_, List.getElem?_eq_getElem h⟩
theorem wi_lt {T : List (List α)} {e : Nat × Nat} {w : α} (h : wi T e = some w) : e.2 < rl T e.1 ∧ e.1 < T.length := by
 have h1 : e.2 < rl T e.1 := (List.getElem?_eq_some_iff.mp h).1
 refine ⟨h1, ?_⟩
 rcases Nat.lt_or_ge e.1 T.length with z | z
 ·exact z
 ·unfold rl at h1
  rw [List.getD_eq_getElem?_getD, List.getElem?_eq_none z] at h1
  simp at h1
def nx (T : List (List α)) (P : Nat) (c m : Nat × Nat) : Nat × Nat :=
 if c.2 = rl T c.1 then ((c.1 + P - 1) % P, 0) else if m.1 < P then (m.1, m.2 + 1) else (m.1, (m.2 + 1) % rl T m.1)
def Nx (T : List (List α)) (P : Nat) (c c' : Nat × Nat) : Prop := (c.2 = rl T c.1 ∧ c' = ((c.1 + P - 1) % P, 0)) ∨ (c.2 < rl T c.1 ∧ ∃ m, Mate T c m ∧ c' = if m.1 < P then (m.1, m.2 + 1) else (m.1, (m.2 + 1) % rl T m.1))
theorem nx_c {T : List (List α)} {P : Nat} (hP : 0 < P) (hPT : P ≤ T.length) {c c' : Nat × Nat} (hc : IsC T P c) (h : Nx T P c c') : IsC T P c' := by
 rcases h with ⟨h1, rfl⟩ | ⟨h1, m, ⟨_, w, _, hm⟩, rfl⟩
 ·have := Nat.mod_lt (c.1 + P - 1) hP
  exact ⟨by show (c.1 + P - 1) % P < _; omega, by show 0 < _; simp only [this, if_true]; omega⟩
 ·obtain ⟨a, b⟩ := wi_lt hm
  split
  ·rename_i z
   exact ⟨b, by show m.2 + 1 < _; simp only [z, if_true]; omega⟩
  ·refine ⟨b, ?_⟩
   have := Nat.mod_lt (m.2 + 1) (show 0 < rl T m.1 by omega)
   exact Nat.lt_of_lt_of_le this (Nat.le_add_right _ _)
theorem nf_ {m a b : Nat} (ha : a < m) (hb : b < m) (h : (a + 1) % m = (b + 1) % m) : a = b := by
 by_cases z1 : a + 1 = m <;> by_cases z2 : b + 1 = m
 ·omega
 ·rw [z1, Nat.mod_self, Nat.mod_eq_of_lt (by omega)] at h; omega
 ·rw [z2, Nat.mod_self, Nat.mod_eq_of_lt (by omega)] at h; omega
 ·rw [Nat.mod_eq_of_lt (by omega), Nat.mod_eq_of_lt (by omega)] at h; omega
theorem ma_ {P a b : Nat} (ha : a < P) (hb : b < P) (h : (a + P - 1) % P = (b + P - 1) % P) : a = b := by
 have e : ∀ x, x < P → (x + P - 1) % P = if x = 0 then P - 1 else x - 1 := fun x hx => by
  by_cases z : x = 0
  ·rw [if_pos z, z, Nat.zero_add, Nat.mod_eq_of_lt (by omega)]
  ·rw [if_neg z, show x + P - 1 = (x - 1) + P by omega, Nat.add_mod_right, Nat.mod_eq_of_lt (by omega)]
 rw [e a ha, e b hb] at h
 split at h <;> split at h <;> omega
theorem mJ_ {T : List (List α)} {P : Nat} (h : Tw T) (hP : 0 < P) {c d x : Nat × Nat} (hc : IsC T P c) (hd : IsC T P d) (h1 : Nx T P c x) (h2 : Nx T P d x) : c = d := by
 have post : ∀ {c : Nat × Nat}, IsC T P c → c.2 = rl T c.1 → c.1 < P := fun {c} hc e => by
  have := hc.2
  split at this
  ·assumption
  ·omega
 rcases h1 with ⟨a1, a2⟩ | ⟨a1, m, am, a2⟩ <;> rcases h2 with ⟨b1, b2⟩ | ⟨b1, m', bm, b2⟩
 ·rw [a2] at b2
  have e := ma_ (post hc a1) (post hd b1) (congrArg Prod.fst b2)
  exact Prod.ext e (by rw [a1, b1, e])
 ·exfalso
  rw [a2] at b2
  have lt := Nat.mod_lt (c.1 + P - 1) hP
  split at b2
  ·have := congrArg Prod.snd b2; dsimp only at this; omega
  ·have := congrArg Prod.fst b2; dsimp only at this; omega
 ·exfalso
  rw [b2] at a2
  have lt := Nat.mod_lt (d.1 + P - 1) hP
  split at a2
  ·have := congrArg Prod.snd a2; dsimp only at this; omega
  ·have := congrArg Prod.fst a2; dsimp only at this; omega
 ·rw [a2] at b2
  obtain ⟨_, w, _, wm⟩ := id am
  obtain ⟨_, w', _, wm'⟩ := id bm
  have l1 := (wi_lt wm).1
  have l2 := (wi_lt wm').1
  have e : m = m' := by
   split at b2 <;> split at b2
   ·have e1 := congrArg Prod.fst b2; have e2 := congrArg Prod.snd b2; dsimp only at e1 e2
    exact Prod.ext e1 (by omega)
   ·have e1 := congrArg Prod.fst b2; dsimp only at e1; omega
   ·have e1 := congrArg Prod.fst b2; dsimp only at e1; omega
   ·have e1 := congrArg Prod.fst b2; have e2 := congrArg Prod.snd b2; dsimp only at e1 e2
    rw [← e1] at e2 l2
    exact Prod.ext e1 (nf_ l1 l2 e2)
  subst e
  exact fQ_ h am.symm bm.symm
def corners (T : List (List α)) (P : Nat) : List (Nat × Nat) := (List.range T.length).flatMap fun p => (List.range (rl T p + (if p < P then 1 else 0))).map fun k => (p, k)
theorem eb_ {T : List (List α)} {P : Nat} {c : Nat × Nat} : c ∈ corners T P ↔ IsC T P c := by
 unfold corners IsC
 rw [List.mem_flatMap]
 constructor
 ·rintro ⟨p, hp, hc⟩
  obtain ⟨k, hk, rfl⟩ := List.mem_map.mp hc
  exact ⟨List.mem_range.mp hp, List.mem_range.mp hk⟩
 ·rintro ⟨h1, h2⟩
  exact ⟨c.1, List.mem_range.mpr h1, List.mem_map.mpr ⟨c.2, List.mem_range.mpr h2, rfl⟩⟩
inductive Way (T : List (List α)) (P : Nat) : List (Nat × Nat) → Nat × Nat → Prop
 | one {c d} : Nx T P c d → Way T P [c] d
 | more {l c d} : Way T P l c → Nx T P c d → Way T P (l ++ [c]) d
theorem jV_ {T : List (List α)} {P : Nat} {l : List (Nat × Nat)} {d : Nat × Nat} (w : Way T P l d) : l ≠ [] := by
 cases w with
 | one _ => simp
 | more _ _ => simp
theorem jW_ {β : Type} {l m : List β} {c : β} (h : l ≠ []) (e : (l ++ m).head? = some c) : l.head? = some c := by
 cases l with
 | nil => exact absurd rfl h
 | cons a r => exact e
theorem g3_ {β : Type} [DecidableEq β] : ∀ {l m : List β}, l.Nodup → (∀ x ∈ l, x ∈ m) → l.length ≤ m.length
 | [], _, _, _ => Nat.zero_le _
 | a :: l, m, nd, h => by
  rw [List.nodup_cons] at nd
  have := g3_ (l := l) (m := m.erase a) nd.2 fun x hx => by
   have hne : x ≠ a := fun e => by subst e; exact nd.1 hx
   exact (List.mem_erase_of_ne hne).mpr (h x (List.mem_cons_of_mem _ hx))
  have ha := h a List.mem_cons_self
  rw [List.length_erase_of_mem ha] at this
  have : 0 < m.length := List.length_pos_of_mem ha
  simp only [List.length_cons]
  omega
theorem hB_ {T : List (List α)} {P : Nat} (h : Tw T) (hP : 0 < P) (hPT : P ≤ T.length) {c : Nat × Nat} : ∀ {l : List (Nat × Nat)} {d : Nat × Nat}, Way T P l d → l.head? = some c → IsC T P c → IsC T P d ∧ (∀ x ∈ l, IsC T P x) ∧ (∀ x ∈ l, x = c ∨ ∃ y ∈ l, Nx T P y x)
  ∧ ∃ z ∈ l, Nx T P z d := by
 intro l d w
 induction w with
 | @one a b hn =>
  intro hc ic
  cases hc
  exact ⟨nx_c hP hPT ic hn, fun x hx => by rw [List.mem_singleton.mp hx]; exact ic, fun x hx => .inl (List.mem_singleton.mp hx), c, by simp, hn⟩
 | @more l' x y w hn ih =>
  intro hc ic
  have hc' : l'.head? = some c := jW_ (jV_ w) hc
  obtain ⟨i1, i2, i3, z, hz, i4⟩ := ih hc' ic
  refine ⟨nx_c hP hPT i1 hn, fun q hq => ?_, fun q hq => ?_, x, by simp, hn⟩
  ·rcases List.mem_append.mp hq with q' | q'
   ·exact i2 q q'
   ·rw [List.mem_singleton.mp q']; exact i1
  ·rcases List.mem_append.mp hq with q' | q'
   ·exact (i3 q q').imp id fun ⟨y, hy, e⟩ => ⟨y, List.mem_append_left _ hy, e⟩
   ·rw [List.mem_singleton.mp q']
    exact .inr ⟨z, List.mem_append_left _ hz, i4⟩
theorem ng_ {T : List (List α)} {P : Nat} (h : Tw T) (hP : 0 < P) (hPT : P ≤ T.length) {c d : Nat × Nat} {l : List (Nat × Nat)} (w : Way T P l d) (hc : l.head? = some c) (ic : IsC T P c) (nd : l.Nodup) (hd : d ≠ c) : d ∉ l := fun hm => by
 obtain ⟨i1, i2, i3, z, hz, i4⟩ := hB_ h hP hPT w hc ic
 -- d = x in l; x ≠ c so x is behind some y in l; y = z, the last one; so by the order of the way ..
 have key : ∀ {l : List (Nat × Nat)} {d : Nat × Nat}, Way T P l d → l.head? = some c → l.Nodup → d ∈ l → d = c := by
  intro l d w
  induction w with
  | @one a b hn =>
   intro hc nd hm
   cases hc
   exact List.mem_singleton.mp hm
  | @more l' x y w hn ih =>
   intro hc nd hm
   have hc' : l'.head? = some c := jW_ (jV_ w) hc
   obtain ⟨j1, j2, j3, z, hz, j4⟩ := hB_ h hP hPT w hc' ic
   rw [List.nodup_append] at nd
   have xnew : x ∉ l' := fun q => nd.2.2 x q x (by simp) rfl
   rcases List.mem_append.mp hm with q | q
   ·rcases j3 y q with e | ⟨u, hu, e⟩
    ·exact e
    ·have : u = x := mJ_ h hP (j2 u hu) j1 e hn
     exact absurd (this ▸ hu) xnew
   ·have e := List.mem_singleton.mp q
    subst e
    -- x behind z in l' and x behind x: z = x
    have : z = y := mJ_ h hP (j2 z hz) j1 j4 hn
    exact absurd (this ▸ hz) xnew
 exact hd (key w hc nd hm)
theorem nh_ {T : List (List α)} {P : Nat} (h : Tw T) (hP : 0 < P) (hPT : P ≤ T.length) {c d : Nat × Nat} {l : List (Nat × Nat)} (w : Way T P l d) (hc : l.head? = some c) (ic : IsC T P c) (nd : l.Nodup) : l.length ≤ (corners T P).length :=
 g3_ nd fun x hx => eb_.mpr ((hB_ h hP hPT w hc ic).2.1 x hx)
end RimT
namespace RimT
variable {α : Type} [DecidableEq α]
def ins (l : List α) (k : Nat) (w : α) : List α := l.take k ++ w :: l.drop k
theorem e8_ (l : List α) (k : Nat) (w : α) : (ins l k w).length = l.length + 1 := by
 unfold ins
 simp only [List.length_append, List.length_take, List.length_cons, List.length_drop]
 omega
theorem le_ (l : List α) (k : Nat) (w x : α) : (ins l k w).count x = l.count x + if w = x then 1 else 0 := by
 unfold ins
 rw [List.count_append, List.count_cons]
 have := List.take_append_drop k l
 have e : l.count x = (l.take k).count x + (l.drop k).count x := by rw [← List.count_append, this]
 rw [e]
 by_cases h : w = x
 ·simp [h]; omega
 ·simp [h]
def insAt (T : List (List α)) (c : Nat × Nat) (w : α) : List (List α) := T.set c.1 (ins (T.getD c.1 []) c.2 w)
theorem gf_ (x : α) (l' : List α) : ∀ (T : List (List α)) (p : Nat), p < T.length → (T.set p l').flatten.count x + (T.getD p []).count x = T.flatten.count x + l'.count x
 | [], p, h => absurd h (by simp)
 | l :: T, 0, h => by
  simp only [List.set_cons_zero, List.flatten_cons, List.count_append, List.getD_cons_zero]
  omega
 | l :: T, p + 1, h => by
  have := gf_ x l' T p (by simpa using h)
  simp only [List.set_cons_succ, List.flatten_cons, List.count_append, List.getD_cons_succ]
  omega
theorem je_ (l' : List α) : ∀ (T : List (List α)) (p : Nat), p < T.length → (T.set p l').flatten.length + (T.getD p []).length = T.flatten.length + l'.length
 | [], p, h => absurd h (by simp)
 | l :: T, 0, h => by
  simp only [List.set_cons_zero, List.flatten_cons, List.length_append, List.getD_cons_zero]
  omega
 | l :: T, p + 1, h => by
  have := je_ l' T p (by simpa using h)
  simp only [List.set_cons_succ, List.flatten_cons, List.length_append, List.getD_cons_succ]
  omega
theorem c1_ {T : List (List α)} {c : Nat × Nat} (h : c.1 < T.length) (w x : α) : (insAt T c w).flatten.count x = T.flatten.count x + if w = x then 1 else 0 := by
 have := gf_ x (ins (T.getD c.1 []) c.2 w) T c.1 h
 rw [le_] at this
 unfold insAt
 omega
theorem gg_ {T : List (List α)} {c : Nat × Nat} (h : c.1 < T.length) (w : α) : (insAt T c w).flatten.length = T.flatten.length + 1 := by
 have := je_ (ins (T.getD c.1 []) c.2 w) T c.1 h
 rw [e8_] at this
 unfold insAt
 omega
theorem aI_ (T : List (List α)) (c : Nat × Nat) (w : α) : (insAt T c w).length = T.length := by unfold insAt; simp
theorem fR_ {T : List (List α)} {c : Nat × Nat} (w : α) (p : Nat) : rl T p ≤ rl (insAt T c w) p := by
 unfold insAt rl
 rw [List.getD_eq_getElem?_getD, List.getD_eq_getElem?_getD, List.getElem?_set]
 by_cases h : c.1 = p
 ·subst h
  by_cases h2 : c.1 < T.length
  ·simp only [if_true, h2, Option.getD_some, e8_]
   rw [List.getD_eq_getElem?_getD]
   omega
  ·simp [h2, List.getElem?_eq_none (Nat.not_lt.mp h2)]
 ·simp [h]
structure Gr (P W : Nat) (T : List (List Nat)) : Prop where
 len : P ≤ T.length
 most : T.length ≤ P + 10
 two : ∀ w, w < W → T.flatten.count w = 2
 lt : ∀ w ∈ T.flatten, w < W
 ne : ∀ p, P ≤ p → p < T.length → 0 < rl T p
 tot : T.flatten.length = 2 * W
theorem Gr.tw {P W : Nat} {T : List (List Nat)} (g : Gr P W T) : Tw T := fun w h => g.two w (g.lt w h)
theorem mb_ (P : Nat) : Gr P 0 (List.replicate P []) := by
 have e : (List.replicate P ([] : List Nat)).flatten = [] := by
  induction P with
  | zero => rfl
  | succ n ih => rw [List.replicate_succ, List.flatten_cons, ih]; rfl
 exact ⟨by simp, by simp, fun w h => absurd h (by omega), fun w h => (by rw [e] at h; cases h), fun p h1 h2 => (by simp at h2; omega), (by rw [e]; rfl)⟩
theorem gh_ {T : List (List Nat)} {c : Nat × Nat} (h : c.1 < T.length) {w x : Nat} (hx : x ∈ (insAt T c w).flatten) : x = w ∨ x ∈ T.flatten := by
 by_cases e : x = w
 ·exact .inl e
 ·right
  have := List.count_pos_iff.mpr hx
  rw [c1_ h, if_neg (fun z => e z.symm)] at this
  exact List.count_pos_iff.mp (by omega)
theorem ni_ {P W : Nat} {T : List (List Nat)} {c : Nat × Nat} (g : Gr P W T) (hc : c.1 < T.length) (h : T.length < P + 10) : Gr P (W + 1) (insAt T c W ++ [[W]]) := by
 have fl : (insAt T c W ++ [[W]]).flatten = (insAt T c W).flatten ++ [W] := by rw [List.flatten_append]; simp
 refine ⟨by simp [aI_]; have := g.len; omega, by simp [aI_]; omega, fun w hw => ?_, fun w hw => ?_, fun p h1 h2 => ?_, ?_⟩
 ·rw [fl, List.count_append, c1_ hc]
  by_cases e : w = W
  ·subst e
   have : T.flatten.count w = 0 := List.count_eq_zero.mpr fun z => absurd (g.lt w z) (by omega)
   simp [this]
  ·have := g.two w (by omega)
   rw [if_neg (fun z => e z.symm), this]
   rw [List.count_eq_zero.mpr fun z => e (List.mem_singleton.mp z)]
 ·rw [fl] at hw
  rcases List.mem_append.mp hw with hw | hw
  ·rcases gh_ hc hw with e | e
   ·omega
   ·have := g.lt w e; omega
  ·have := List.mem_singleton.mp hw; omega
 ·simp only [List.length_append, aI_, List.length_singleton] at h2
  by_cases e : p < T.length
  ·have := g.ne p h1 e
   have a := fR_ (T := T) (c := c) W p
   unfold rl at a ⊢
   rw [List.getD_eq_getElem?_getD, List.getElem?_append_left (by rw [aI_]; exact e), ← List.getD_eq_getElem?_getD]
   unfold rl at this
   omega
  ·have e : p = T.length := by omega
   subst e
   unfold rl
   rw [List.getD_eq_getElem?_getD, List.getElem?_append_right (by rw [aI_]; exact Nat.le_refl _), aI_]
   simp
 ·rw [fl, List.length_append, gg_ hc, g.tot]
  simp
  omega
theorem oa_ {P W : Nat} {T : List (List Nat)} {c d : Nat × Nat} (g : Gr P W T) (hc : c.1 < T.length) (hd : d.1 < T.length) : Gr P (W + 1) (insAt (insAt T c W) d W) := by
 have hd' : d.1 < (insAt T c W).length := by rw [aI_]; exact hd
 refine ⟨by rw [aI_, aI_]; exact g.len, by rw [aI_, aI_]; exact g.most, fun w hw => ?_, fun w hw => ?_, fun p h1 h2 => ?_, ?_⟩
 ·rw [c1_ hd', c1_ hc]
  by_cases e : w = W
  ·subst e
   have : T.flatten.count w = 0 := List.count_eq_zero.mpr fun z => absurd (g.lt w z) (by omega)
   simp [this]
  ·rw [if_neg (fun z => e z.symm), g.two w (by omega)]
 ·rcases gh_ hd' hw with e | e
  ·omega
  ·rcases gh_ hc e with e | e
   ·omega
   ·have := g.lt w e; omega
 ·rw [aI_, aI_] at h2
  have := g.ne p h1 h2
  have a := fR_ (T := T) (c := c) W p
  have b := fR_ (T := insAt T c W) (c := d) W p
  omega
 ·rw [gg_ hd', gg_ hc, g.tot]
  omega
theorem jf_ {T : List (List α)} {P : Nat} : (corners T P).length ≤ T.flatten.length + P := by
 have key : ∀ n, n ≤ T.length → ((List.range n).flatMap fun p => (List.range (rl T p + (if p < P then 1 else 0))).map fun k => (p, k)).length ≤ (T.take n).flatten.length + min n P := fun n => by
  induction n with
  | zero => intro _; simp
  | succ n ih =>
   intro h
   have i := ih (by omega)
   have e : T[n]? = some T[n] := List.getElem?_eq_getElem (by omega)
   rw [List.range_succ, List.flatMap_append, List.length_append, List.take_succ, e, List.flatten_append, List.length_append]
   have r : rl T n = T[n].length := by unfold rl; rw [List.getD_eq_getElem?_getD, e]; rfl
   simp only [List.flatMap_cons, List.flatMap_nil, List.append_nil, List.length_map, List.length_range, Option.toList_some, List.flatten_cons, List.flatten_nil, r]
   split <;> omega
 have := key T.length (Nat.le_refl _)
 rw [List.take_length] at this
 unfold corners
 omega
theorem Gr.corners {P W : Nat} {T : List (List Nat)} (g : Gr P W T) : (corners T P).length ≤ 2 * W + P := by
 have := jf_ (T := T) (P := P)
 rw [g.tot] at this
 exact this
end RimT
namespace L2
open PySem PySem.Spec PyProof.Rows
theorem aM_ {X : Cx} {K : PySem.W.Frag} (hK : X.K = K) : IxR X (rIxT K) := hK ▸ mB_
theorem gi_ {X : Cx} {x : Str} {C : Addr} {pos : Pos} (hm : X.mg x = some (.ref C)) (hg : Gl X x) (hd : (x == ("__debug__" : Str)) = false := by decide) : PE X (.Name x pos) (tC (.ref C)) := i6_ hg hm rfl hd
def numsV (n : Nat) : List V := (List.range n).map fun i : Nat => V.int (i : Int)
def tLRange (ta : TA) : TE := fun σ H Q => ta σ H fun vs H1 => ∃ n : Nat, vs = [.int (n : Int)] ∧ n ≤ 1000 ∧ ∀ l, H1 l = none → Q (.ref l) (upd H1 l (.lst (numsV n)))
theorem jX_ : ∀ {xs : List V} {us : List Value}, xs.length = us.length → (∀ (j : Nat) x u, xs[j]? = some x → us[j]? = some u → RelV x u) → Vals xs us
 | [], [], _, _ => .nil
 | [], _ :: _, h, _ => by simp at h
 | _ :: _, [], h, _ => by simp at h
 | x :: xs, u :: us, h, k => .cons (k 0 x u rfl rfl) (jX_ (by simpa using h) fun j y v e e' => k (j + 1) y v (by simpa using e) (by simpa using e'))
theorem ip_ {X : Cx} {a : Expr} {ta : TA} {p p' pos pos' : Pos} (hc : X.calm = true) (hg : Gl X "list") (hm : X.mg "list" = none) (hg' : Gl X "range") (hm' : X.mg "range" = none) (ha : PA X [a] ta) (hs : plainArgs [a] = true := by rfl) :
  PE X (.Call (.Name "list" p) [.Call (.Name "range" p') [a] [] pos'] [] pos) (tLRange ta) := by
 have h' : notStar a = true := by simpa [plainArgs] using hs
 intro pins s σ H Q I h
 refine wpAny_Call_Name_kw (ev_ I hg hm e5_ ?_ (by decide) (by decide))
 refine PyProof.Rows.callWith_type1 ?_ (aC_ rfl) rfl
 rw [aC_ (e := .Call (.Name "range" p') [a] [] pos') (es := []) rfl]
 show wpAny _ _ (spliced ((false, eval (.Call (.Name "range" p') [a] [] pos') X.env) :: backTo pos (starEach [] X.env))) _ _ s
 refine Calls.spliced_cons ?_
 refine Call_ (ev_ I hg' hm' boot_range (PyProof.Rows.callWith_type1 (thn (ha pos' pins s σ H _ I h) fun us s1 ⟨vs, H1, I1, r1, q1⟩ => ?_) (aC_ h') rfl))
 obtain ⟨n, e, n1, q⟩ := q1
 subst e
 cases r1 with
 | cons r rr =>
  cases rr
  obtain ⟨t, rfl⟩ := r
  refine call_range_1 ?_
  refine Calls.spliced_nil ?_
  have I2 : Inv X pins σ H1 { s1 with heap := s1.heap.push { cls := .type "range", data := .fields #[.int 0 s1.toks, .int (n : Int) t, .int 1 (s1.toks + 1)] }, toks := s1.toks + 1 + 1 } := I1.kept fun b o e => Heap.get?_push_of_some _ e
  refine call_list_range (n := n) (I2.ok.hd hc) (IsRange.new ..) (small_one (by omega) (by omega) (by omega) (by omega)) (by rw [rangeSize_one]; split <;> omega) (by omega) fun h2 tk acc c hk hS hacc => ?_
  refine ⟨.ref _, _, I2.laid (t' := tk) hk (Nat.le_refl _) (show ObjOk X.prog X.w _ h2 _ (.lst (numsV n)) from ⟨?_, acc.toList, c, jX_ ?_ ?_, by simpa using hS⟩), rfl, q _ (I2.hok.fresh (Nat.le_refl _))⟩
  ·exact Nat.le_of_lt (small1000 (by simp [numsV]; omega))
  ·simp [numsV, hacc.1]
  ·intro j x u hx hu
   have hj : j < n := by
    have := (List.getElem?_eq_some_iff.mp hx).1
    simpa [numsV] using this
   have hx' : x = V.int (j : Int) := by
    rw [numsV, List.getElem?_map, List.getElem?_range hj] at hx
    exact (Option.some.inj hx).symm
   obtain ⟨tk', rfl⟩ := hacc.2 j u (by simpa using hu)
   rw [hx']
   exact ⟨tk', by rw [Int.zero_add, Int.mul_one]⟩
end L2
namespace L2
open PySem PySem.Spec PyProof.Rows PySem.W
def runT {α : Type} (lt : Nat → Nat → Bool) (n : Nat) : KasT α → Option α
 | .ret a => some a
 | .ask i j k => if i < n ∧ j < n then runT lt n (k (lt i j)) else none
theorem lf_ {α : Type} {ask : Nat → Nat → (Bool → Shared → Prop) → Shared → Prop} {lt : Nat → Nat → Bool} {n : Nat} {Q : α → Shared → Prop} {s : Shared} (hc : ∀ i j (C : Bool → Shared → Prop), i < n → j < n → C (lt i j) s → ask i j C s) :
  ∀ (t : KasT α) {p : α}, runT lt n t = some p → Q p s → t.kasWp ask Q s
 | .ret a, p, e, q => by
  cases e
  exact q
 | .ask i j k, p, e, q => by
  unfold runT at e
  split at e
  ·rename_i h
   exact hc i j _ h.1 h.2 (lf_ hc (k (lt i j)) e q)
  ·cases e
section
variable {X : Cx} {pins : List (Addr × Obj)} {σ : St} {H : Hp} {s : Shared}
theorem ob_ {h : Heap} {a : Addr} {m m' : Str → Option Value} (x : h.Ns a m) (y : h.Ns a m') : m = m' := by
 obtain ⟨o, es, ep, ho, hd, _, hf⟩ := x
 obtain ⟨o', es', ep', ho', hd', _, hf'⟩ := y
 rw [ho] at ho'
 cases ho'
 rw [hd] at hd'
 cases hd'
 funext z
 rw [← hf z, hf' z]
theorem Inv.keeps (I : Inv X pins σ H s) {m : Str → Option Value} {h' : Heap} (F : Fr X.base X.env.locals h' m) (N : News X.base X.env.locals h' (allNews X.base s.heap X.env.locals)) :
  ∀ b o, b ≠ X.env.locals → s.heap.get? b = some o → h'.get? b = some o := fun b o hb e => by
 cases q : X.base.get? b with
 | some u =>
  have z := I.bk b u q
  rw [e] at z
  cases z
  exact F.keep b _ q
 | none => exact (N (b, o) (cV_ hb q e)).1
theorem Inv.led {H' : Hp} {t' : Nat} (I : Inv X pins σ H s) {m : Str → Option Value} (hn : s.heap.Ns X.env.locals m) {h' : Heap} (F : Fr X.base X.env.locals h' m) (N : News X.base X.env.locals h' (allNews X.base s.heap X.env.locals))
  (free : ∀ b o, s.heap.get? b = some o → H b = none → H' b = none) (old : ∀ b o, H b = some o → H' b = some o) (new : ∀ b o, H' b = some o → H b = none → ObjOk X.prog X.w H' h' b o) : Inv X pins σ H' { s with heap := h', toks := t' } := by
 have kp := I.keeps F N
 refine I.step (g' := s.gens) (d' := s.drawn) (ch := []) (fun _ z => nomatch z) (fun b o hb _ _ e _ => kp b o hb e) (fun b o hb _ _ e _ => ⟨o.slots, kp b o hb e⟩) (fun b o _ e n => free b o e n) (fun b o _ e => ?_) (fun b xs q => old b _ q) (fun b o u q => old b _ q) (fun b ps q => ⟨#[], by simpa using old b _ q⟩) (fun m' hm => ?_) ?_ I.bare
 ·by_cases hb : b = X.env.locals
  ·subst hb
   obtain ⟨o', _, _, ho', _⟩ := F.ns
   exact ⟨o', ho'⟩
  ·exact ⟨o, kp b o hb e⟩
 ·rw [ob_ hm hn]
  exact F.ns
 ·intro b o e
  cases q : H b with
  | none => exact new b o e q
  | some u =>
   have z := old b u q
   rw [e] at z
   cases z
   refine (I.hok b o q).stay (fun c v hc r => kp c v (fun w => ?_) r) (fun c r => old c _ r) fun c xs r => old c _ r
   rcases hc with rfl | hc
   ·rw [w, I.free] at q; cases q
   ·rw [w, I.free] at hc; cases hc
theorem iq_ {ys : List V} {its : List Value} (r : Vals ys its) (is : List Nat) : Vals (is.map fun i => ys.getD i .non) (is.map fun i => its.getD i Value.none) := by
 induction is with
 | nil => exact .nil
 | cons i is ih =>
  refine .cons ?_ ih
  show RelV (ys.getD i .non) (its.getD i Value.none)
  rw [List.getD_eq_getElem?_getD, List.getD_eq_getElem?_getD]
  have hl := r.length
  cases e : ys[i]? with
  | none =>
   have : ys.length ≤ i := List.getElem?_eq_none_iff.mp e
   rw [List.getElem?_eq_none_iff.mpr (by omega)]
   exact rfl
  | some x =>
   obtain ⟨u, hu, ru⟩ := r.get e
   rw [hu]
   exact ru
theorem ob_is {P : Program} {w : World} {H : Hp} {h : Heap} {a : Addr} {o : HO} (x : ObjOk P w H h a o) : ∃ ob, h.get? a = some ob := by
 cases o with
 | lst xs => obtain ⟨_, _, _, _, e⟩ := x; exact ⟨_, e⟩
 | tup xs => obtain ⟨_, _, _, ob, e, _⟩ := x; exact ⟨_, e⟩
 | dK kvs => obtain ⟨_, _, _, _, ob, _, _, e, _⟩ := x; exact ⟨_, e⟩
 | dT kvs => obtain ⟨_, _, _, _, ob, _, _, e, _⟩ := x; exact ⟨_, e⟩
 | set S n => obtain ⟨ob, _, _, _, e, _⟩ := x; exact ⟨_, e⟩
 | ins C dx fs => obtain ⟨_, _, _, e, _⟩ := x; exact ⟨_, e⟩
 | own y => exact x
 | xd fs => obtain ⟨_, ⟨ob, _, _, e, _⟩, _⟩ := x; exact ⟨_, e⟩
 | rng lo hi => obtain ⟨_, _, _, e⟩ := x; exact ⟨_, e⟩
 | frz ob u => exact ⟨_, x.1⟩
 | tbl ps => exact ⟨_, show h.get? a = some _ from x⟩
 | met f y => exact ⟨_, show h.get? a = some _ from x⟩
 | ext φ => exact x.2.1
theorem lg_ {Q : VK} {p : Addr} {ys : List V} {lt : Nat → Nat → Bool} {κ : SortKind} {pm : Array Nat} (I : Inv X pins σ H s) (hq : SqL X.K H p ys) (h2 : 2 ≤ ys.length) (h64 : ys.length < 64)
  (kind : ∀ (its : List Value) (s' : Shared), Vals ys its → Inv X pins σ H s' → ∀ C : SortKind → Shared → Prop, C κ s' → wpAny (model X.prog X.w) X.A.in1.in1 (keyKind' its.toArray) C (fun _ _ => False) s')
  (less : ∀ (its : List Value) (s' : Shared) (i j : Nat), Vals ys its → Inv X pins σ H s' → i < ys.length → j < ys.length → ∀ C : Bool → Shared → Prop, C (lt i j) s' → wpAny (model X.prog X.w) X.A.in1.in1 (keyLt' κ (its.getD i Value.none) (its.getD j Value.none)) C (fun _ _ => False) s')
  (run : runT lt ys.length (kas_sort ys.length) = some pm) (hz : pm.size ≤ 1000) (q : ∀ l, H l = none → Q (.ref l) (upd H l (.lst (pm.toList.map fun i => ys.getD i .non)))) :
  wpAny (model X.prog X.w) X.A (call (.builtin "sorted") [.ref p]) (EP X pins σ Q) X.xe s := by
 obtain ⟨its, rv, pl, _⟩ := I.list hq
 have hl := rv.length
 obtain ⟨m, hn, _⟩ := id I.loc
 have F0 : Fr X.base X.env.locals s.heap m := ⟨hn, I.bk, Nat.le_trans I.ok.bsz I.ok.above⟩
 refine kat_sorted F0 hk_ pl.isList (by omega) (by omega) fun D e1 h1 F1 N1 lt1 => ?_
 have N1' : News X.base X.env.locals h1 (allNews X.base s.heap X.env.locals) := fun z hz' => N1 z (List.mem_cons_of_mem _ hz')
 have ND := N1 (D, _) List.mem_cons_self
 have fr : ∀ b o, s.heap.get? b = some o → b ≠ D := fun b o e w => by
  subst w
  exact absurd (lt1 (b, o) (cV_ ND.2.1 ND.2.2 e)) (Nat.lt_irrefl _)
 have HD : H D = none := by
  cases w : H D with
  | none => rfl
  | some u =>
   obtain ⟨o, g⟩ := ob_is (I.hok D u w)
   exact absurd rfl (fr D o g)
 have I1 : Inv X pins σ H { s with heap := h1, toks := s.toks } := I.led hn F1 N1' (fun _ _ _ n => n) (fun _ _ w => w) (fun b o w n => by rw [w] at n; cases n)
 refine kind its _ rv I1 _ ?_
 rw [← hl]
 refine lf_ (lt := lt) (n := ys.length) (fun i j C hi hj hC => less its _ i j rv I1 hi hj C hC) _ run ?_
 refine KasFin.intro F1 N1 (.head fun z hz' w => ?_) fun h2' c F2 N2 => ?_
 ·exact absurd (lt1 z hz') (by rw [w]; exact Nat.lt_irrefl _)
 ·have N2' : News X.base X.env.locals h2' (allNews X.base s.heap X.env.locals) := fun z hz' => N2 z (List.mem_cons_of_mem _ hz')
  have hD := (N2 (D, _) List.mem_cons_self).1
  refine ⟨.ref D, upd H D (.lst (pm.toList.map fun i => ys.getD i .non)), I.led (t' := s.toks) hn F2 N2' (fun b o e n => by rw [af_ (fr b o e)]; exact n) (fun b o e => by rw [af_ (ag_ e HD)]; exact e) (fun b o e n => ?_), rfl, q D HD⟩
  by_cases hb : b = D
  ·subst hb
   rw [ac_] at e
   cases e
   exact ⟨Nat.le_of_lt (small1000 (by simp; omega)), _, c, iq_ rv _, hD⟩
  ·rw [af_ hb, n] at e
   cases e
end
end L2
namespace L2
open PySem PySem.Spec PyProof.Rows PySem.W HT
section
open PySem.SeqAt
open PySem.AutoSeq1 (wpAny_loadPart')
open PySem.MeetsSeq PySem.MeetsSeq2 PySem.MeetsSeq3
end
section
variable {prog : Program} {w : World} {A : Around} {E : Value → Shared → Prop} {s : Shared}
end
end L2
namespace L2
open PySem PySem.Spec PyProof.Rows PySem.W HT
section
variable {X : Cx} {pins : List (Addr × Obj)} {σ : St} {H : Hp} {s : Shared}
end
end L2
namespace L2
open PySem PyProof.Rows PySem.W
theorem cH_ {α β : Type} {lt : Nat → Nat → Bool} {N : Nat} {f : α → KasT β} : ∀ (t : KasT α) {a : α}, runT lt N t = some a → runT lt N (t.bind f) = runT lt N (f a)
 | .ret b, a, e => by cases e; rfl
 | .ask i j k, a, e => by
  unfold runT at e
  show (if i < N ∧ j < N then runT lt N ((k (lt i j)).bind f) else none) = _
  split at e
  ·rename_i h
   rw [if_pos h]
   exact cH_ (k (lt i j)) e
  ·cases e
section
variable {lt : Nat → Nat → Bool} {N : Nat}
def Pm (N : Nat) (p : Array Nat) : Prop := p.Perm (List.toArray (List.range N))
theorem Pm.below {p : Array Nat} (h : Pm N p) (h0 : 0 < N) (i : Nat) : p.getD i 0 < N := by
 by_cases hi : i < p.size
 ·have e : p.getD i 0 = p[i] := by simp [Array.getD, hi]
  have m : p[i] ∈ (List.range N) := by
   have : p[i] ∈ p.toList := by simp
   exact (Array.perm_iff_toList_perm.mp h).mem_iff.mp this
  rw [e]
  exact List.mem_range.mp m
 ·have e : p.getD i 0 = 0 := by simp [Array.getD, hi]
  rw [e]
  exact h0
theorem jg_ {p : Array Nat} (h : Pm N p) (h0 : 0 < N) : ∀ (f n : Nat), ∃ m, runT lt N (kas_asc p f n) = some m
 | 0, n => ⟨n, rfl⟩
 | f + 1, n => by
  unfold kas_asc runT
  rw [if_pos ⟨h.below h0 _, h.below h0 _⟩]
  cases lt (p.getD n 0) (p.getD (n - 1) 0) with
  | true => exact ⟨n, rfl⟩
  | false => exact jg_ h h0 f (n + 1)
theorem Pm.rev {p : Array Nat} (h : Pm N p) (i j : Nat) : Pm N (kas_rev p i j) := (mirror_perm _ _ _ _).trans h
theorem fS_ (h0 : 0 < N) : ∀ (f : Nat) (p : Array Nat) (n q : Nat), Pm N p → ∃ r, runT lt N (kas_desc f p n q) = some r ∧ Pm N r.1
 | 0, p, n, q, h => ⟨_, rfl, h⟩
 | f + 1, p, n, q, h => by
  unfold kas_desc runT
  rw [if_pos ⟨h.below h0 _, h.below h0 _⟩]
  cases lt (p.getD n 0) (p.getD (n - 1) 0) with
  | true =>
   simp only [if_true]
   split
   ·exact fS_ h0 f _ _ _ (h.rev _ _)
   ·exact fS_ h0 f _ _ _ h
  | false =>
   simp only [Bool.false_eq_true, if_false]
   unfold runT
   rw [if_pos ⟨h.below h0 _, h.below h0 _⟩]
   cases lt (p.getD (n - 1) 0) (p.getD n 0) with
   | true => exact ⟨_, rfl, h⟩
   | false => exact fS_ h0 f _ _ _ h
theorem ir_ (h0 : 0 < N) {n r : Nat} {p : Array Nat} (h : Pm N p) : ∃ z, runT lt N (kas_tail3 n r p) = some z ∧ Pm N z.2 := by
 obtain ⟨m, hm⟩ := jg_ (lt := lt) (h.rev 0 n) h0 (r - n) n
 unfold kas_tail3
 exact ⟨_, (cH_ _ hm).trans rfl, h.rev 0 n⟩
theorem fv_ (h0 : 0 < N) {n r : Nat} {p : Array Nat} (h : Pm N p) : ∃ z, runT lt N (kas_descPart n r p) = some z ∧ Pm N z.2 := by
 obtain ⟨d, hd, hp⟩ := fS_ (lt := lt) h0 (r - (n + 1)) p (n + 1) 0 h
 unfold kas_descPart
 rw [cH_ _ hd]
 split
 ·exact ir_ h0 (hp.rev _ _)
 ·exact ir_ h0 hp
theorem lh_ (h0 : 0 < N) {r : Nat} {p : Array Nat} (h : Pm N p) : ∃ z, runT lt N (kas_count r p) = some z ∧ Pm N z.2 := by
 obtain ⟨m, hm⟩ := jg_ (lt := lt) h h0 (r - 1) 1
 unfold kas_count
 rw [cH_ _ hm]
 split
 ·exact ⟨_, rfl, h⟩
 ·split
  ·unfold runT
   rw [if_pos ⟨h.below h0 _, h.below h0 _⟩]
   cases lt (p.getD 0 0) (p.getD (m - 1) 0) with
   | true => exact ⟨_, rfl, h⟩
   | false => exact fv_ h0 (h.rev _ _)
  ·exact fv_ h0 h
theorem gj_ (h0 : 0 < N) {p : Array Nat} (h : Pm N p) (k : Nat) : ∀ (f l r : Nat), ∃ m, runT lt N (kas_place p k f l r) = some m
 | 0, l, r => ⟨l, rfl⟩
 | f + 1, l, r => by
  unfold kas_place
  split
  ·exact ⟨l, rfl⟩
  ·unfold runT
   rw [if_pos ⟨h.below h0 _, h.below h0 _⟩]
   cases lt (p.getD k 0) (p.getD ((l + r) / 2) 0) with
   | true => exact gj_ h0 h k f l _
   | false => exact gj_ h0 h k f _ r
theorem li_ (h0 : 0 < N) : ∀ (f : Nat) (p : Array Nat) (k : Nat), Pm N p → ∃ z, runT lt N (kas_bin f p k) = some z ∧ Pm N z
 | 0, p, k, h => ⟨p, rfl, h⟩
 | f + 1, p, k, h => by
  obtain ⟨l, hl⟩ := gj_ (lt := lt) h0 h k k 0 k
  unfold kas_bin
  rw [cH_ _ hl]
  exact li_ h0 f _ _ ((bubble_perm _ _ _).trans h)
theorem jY_ (h0 : 0 < N) : ∃ z, runT lt N (kas_sort N) = some z ∧ Pm N z := by
 obtain ⟨r, hr, hp⟩ := lh_ (lt := lt) h0 (r := N) (p := List.toArray (List.range N)) (Array.Perm.refl _)
 unfold kas_sort
 rw [cH_ _ hr]
 split
 ·exact li_ h0 _ _ _ hp
 ·exact ⟨_, rfl, hp⟩
end
end L2
namespace L2
open PySem PySem.Spec PyProof.Rows PySem.W
theorem Inv.frm {X : Cx} {pins : List (Addr × Obj)} {σ : St} {H : Hp} {s : Shared} (I : Inv X pins σ H s) : ∃ m, s.heap.Ns X.env.locals m ∧ Fr X.base X.env.locals s.heap m := by
 obtain ⟨m, hn, _⟩ := id I.loc
 exact ⟨m, hn, hn, I.bk, Nat.le_trans I.ok.bsz I.ok.above⟩
theorem Inv.led_new {X : Cx} {pins : List (Addr × Obj)} {σ : St} {H : Hp} {s : Shared} {t' : Nat} {m : Str → Option Value} {h' : Heap} {D : Addr} {o : HO} {ob : Obj} (I : Inv X pins σ H s) (hn : s.heap.Ns X.env.locals m) (F : Fr X.base X.env.locals h' m)
  (N : News X.base X.env.locals h' ((D, ob) :: allNews X.base s.heap X.env.locals)) (lt1 : ∀ q ∈ allNews X.base s.heap X.env.locals, q.1 < D) (new : ObjOk X.prog X.w (upd H D o) h' D o) : H D = none ∧ Inv X pins σ (upd H D o) { s with heap := h', toks := t' } := by
 have ND := N (D, ob) List.mem_cons_self
 have fr : ∀ b o, s.heap.get? b = some o → b ≠ D := fun b o e w => by
  subst w
  exact absurd (lt1 (b, o) (cV_ ND.2.1 ND.2.2 e)) (Nat.lt_irrefl _)
 have HD : H D = none := by
  cases w : H D with
  | none => rfl
  | some u =>
   obtain ⟨o', g⟩ := ob_is (I.hok D u w)
   exact absurd rfl (fr D o' g)
 refine ⟨HD, I.led hn F (fun z hz' => N z (List.mem_cons_of_mem _ hz')) (fun b o' e n => by rw [af_ (fr b o' e)]; exact n) (fun b o' e => by rw [af_ (ag_ e HD)]; exact e) (fun b o' e n => ?_)⟩
 by_cases hb : b = D
 ·subst hb
  rw [ac_] at e
  cases e
  exact new
 ·rw [af_ hb, n] at e
  cases e
def rSortI : List V → Hp → VK → Prop := fun vs H Q => ∃ (p : Addr) (ns : List Int), vs = [.ref p] ∧ H p = some (.lst (ns.map V.int)) ∧ ns.length < 64 ∧ ∀ (l : Addr) (zs : List Int), H l = none → zs.Perm ns → zs.Pairwise (· ≤ ·) → Q (.ref l) (upd H l (.lst (zs.map V.int)))
theorem fw_ : ∀ {us : List Value} {ns : List Int}, IntsAre us ns → Vals (ns.map V.int) us
 | _, _, .nil => .nil
 | _, _, .cons n t h => .cons ⟨t, rfl⟩ (fw_ h)
theorem kr_ {X : Cx} : CallR X (.builtin "sorted") rSortI := by
 intro pins s σ H xs us Q I r h
 obtain ⟨p, ns, rfl, hp, h64, q⟩ := h
 obtain ⟨u, rfl, e⟩ := vals1 r
 cases e
 obtain ⟨its, rv, pl, _⟩ := I.list (.inl (.inl hp))
 obtain ⟨m, hn, F0⟩ := I.frm
 refine kso_sorted F0 hk_ pl.isList (km_ rv) h64 fun D vs' zs c h' F N lt1 hz hlz hpm hpw _ => ?_
 have hD := (N (D, _) List.mem_cons_self).1
 obtain ⟨HD, I2⟩ := I.led_new (t' := s.toks) (o := .lst (zs.map V.int)) hn F N lt1 ⟨Nat.le_of_lt (small1000 (by rw [List.length_map]; omega)), vs', c, fw_ hz, hD⟩
 exact ⟨.ref D, _, I2, rfl, q D zs HD hpm hpw⟩
end L2
namespace L2
open PySem PySem.Spec PyProof.Rows PySem.W
section
variable {prog : Program} {w : World} {A : Around} {E : Value → Shared → Prop} {s : Shared}
theorem sort1 {a : Addr} {v : Value} {n : Nat} {P : PySem.Fin → Shared → Prop} (ho : s.heap.get? a = some (seqObj "list" #[v] n))
  (h : ∀ h' c, (∀ b o, b ≠ a → s.heap.get? b = some o → h'.get? b = some o) → h'.get? a = some (seqObj "list" #[v] c) → P (.done (.ret .none)) { s with heap := h' }) : wpAny (model prog w) A (Builtin.«list.sort» ⟨[.ref a], []⟩) P E s := by
 have s1 := Heap.SameBut.update s.heap a (Obj.mapSeq fun _ => (#[] : Array Value))
 obtain ⟨e1, o1⟩ : ∃ e1, (s.heap.update a (Obj.mapSeq fun _ => (#[] : Array Value))).get? a = some (seqObj "list" #[] e1) := ⟨_, get?_update_seq ho fun _ => #[]⟩
 rw [list_sort_plain]
 refine wpAny_bind (listItems_at ho rfl (wpAny_bind (listUpdate_at ho rfl (wpAny_bind (seqEpoch_at o1 rfl (wpAny_bind (wpAny_newTuple (wpAny_bind (wpAny_newList (wpAny_holding ?_) (Nat.zero_le _))) ?_)))) ?_ (Nat.zero_le _))))
 ·dsimp only
  have lt2 : (#[v] : Array Value).size < 2 := by show 1 < 2; decide
  rw [if_pos lt2]
  refine wpAny_bind (wpAny_pure ?_)
  rw [if_pos lt2]
  have k3 : ∀ b o, (s.heap.update a (Obj.mapSeq fun _ => (#[] : Array Value))).get? b = some o → (((s.heap.update a (Obj.mapSeq fun _ => (#[] : Array Value))).push (seqObj "tuple" #[v] 0)).push (seqObj "list" #[] 0)).get? b = some o := fun b o e => Heap.get?_push_of_some _ (Heap.get?_push_of_some _ e)
  have o3 := k3 _ _ o1
  have st : failedOf (SortSt.mk' general' ((#[v] : Array Value).zip #[v]) #[] 7 none) = none := rfl
  have ar : (arrOf (SortSt.mk' general' ((#[v] : Array Value).zip #[v]) #[] 7 none)).map (fun x => x.snd) = #[v] := by
   rw [show arrOf (SortSt.mk' general' ((#[v] : Array Value).zip #[v]) #[] 7 none) = (#[v] : Array Value).zip #[v] from rfl]
   simp
  refine wpAny_bind (wpAny_pure (a := ((), SortSt.mk' general' ((#[v] : Array Value).zip #[v]) #[] 7 none)) ?_)
  refine wpAny_bind (seqEpoch_at o3 rfl (wpAny_bind (listUpdate_at o3 rfl ?_ (Nat.zero_le _) ?_)))
  ·dsimp only
   rw [ar, if_neg (by simp)]
   obtain ⟨c2, o4⟩ : ∃ c2, ((((s.heap.update a (Obj.mapSeq fun _ => (#[] : Array Value))).push (seqObj "tuple" #[v] 0)).push (seqObj "list" #[] 0)).update a (Obj.mapSeq fun _ => (#[v] : Array Value))).get? a = some (seqObj "list" #[v] c2) := ⟨_, get?_update_seq o3 fun _ => #[v]⟩
   refine wpAny_pure (h _ c2 (fun b o hb e => ?_) o4)
   rw [Heap.get?_update_other _ _ (Ne.symm hb)]
   refine k3 b o ?_
   rw [Heap.get?_update_other _ _ (Ne.symm hb)]
   exact e
  ·rw [ar]
   exact (show 1 ≤ sizeLine + 1 from Nat.le_add_left 1 _)
 ·exact (show 1 ≤ sizeLine from Nat.le_of_lt (small1000 (by decide)))
 ·exact (show 1 ≤ sizeLine from Nat.le_of_lt (small1000 (by decide)))
theorem sorted1 {l : Addr} {v : Value} {Q : Value → Shared → Prop} (hl : s.heap.IsList l #[v])
  (h : ∀ D h' c, s.heap.objs.size ≤ D → (∀ b o, s.heap.get? b = some o → h'.get? b = some o) → h'.get? D = some (seqObj "list" #[v] c) → Q (.ref D) { s with heap := h' }) : wpAny (model prog w) A (call (.builtin "sorted") [.ref l]) Q E s := by
 refine Calls.call_function_entry kind_sorted plain_sorted entry_sorted (args_sorted1 _) ?_
 unfold Builtin.«sorted»
 have z1 : (#[v] : Array Value).size ≤ sizeLine := (show 1 ≤ sizeLine from Nat.le_of_lt (small1000 (by decide)))
 refine wpAny_bind (m := checkCount "sorted" 1 1 _) (wpAny_pure (wpAny_bind (collect_list hl (wpAny_bind (wpAny_newList ?_ z1)) z1)))
 have hz : ((s.heap.push (seqObj "list" #[] 0)).update s.heap.objs.size (Obj.mapSeq fun x => x ++ #[v])).objs.size = s.heap.objs.size + 1 := by rw [Heap.size_update, size_push']
 have kp : ∀ b o, s.heap.get? b = some o → (((s.heap.push (seqObj "list" #[] 0)).update s.heap.objs.size (Obj.mapSeq fun x => x ++ #[v])).push (seqObj "list" #[v] 0)).get? b = some o := fun b o q => by
  have hlt := Heap.lt_size q
  refine Heap.get?_push_of_some _ ?_
  rw [Heap.get?_update_other _ _ (Nat.ne_of_gt hlt)]
  exact Heap.get?_push_of_some _ q
 have ho := Heap.get?_push_size ((s.heap.push (seqObj "list" #[] 0)).update s.heap.objs.size (Obj.mapSeq fun x => x ++ #[v])) (o := seqObj "list" #[v] 0) rfl
 refine wpAny_bind (wpAny_holding (wpAny_call_entry slot_list_sort ⟨_, ho, rfl⟩ entry_list_sort (sort1 (n := 0) ho fun h' c k2 hD => ⟨_, rfl, wpAny_pure ⟨_, rfl, h _ h' c ?_ (fun b o e => k2 b o ?_ (kp b o e)) hD⟩⟩) (args_list_sort _)))
 ·show s.heap.objs.size ≤ ((s.heap.push (seqObj "list" #[] 0)).update s.heap.objs.size (Obj.mapSeq fun x => x ++ #[v])).objs.size
  rw [hz]
  exact Nat.le_succ _
 ·have := Heap.lt_size e
  show b ≠ ((s.heap.push (seqObj "list" #[] 0)).update s.heap.objs.size (Obj.mapSeq fun x => x ++ #[v])).objs.size
  rw [hz]
  exact Nat.ne_of_lt (Nat.lt_succ_of_lt this)
end
def rSort1 : List V → Hp → VK → Prop := fun vs H Q => ∃ (p : Addr) (y : V), vs = [.ref p] ∧ H p = some (.lst [y]) ∧ ∀ l, H l = none → Q (.ref l) (upd H l (.lst [y]))
theorem ks_ {X : Cx} : CallR X (.builtin "sorted") rSort1 := by
 intro pins s σ H xs us Q I r h
 obtain ⟨p, y, rfl, hp, q⟩ := h
 obtain ⟨u, rfl, e⟩ := vals1 r
 cases e
 obtain ⟨its, rv, pl, _⟩ := I.list (.inl (.inl hp))
 obtain ⟨v, rfl, ry⟩ := vals1 rv
 refine sorted1 pl.isList fun D h' c hD kp ho => ?_
 exact ⟨.ref D, _, I.laid (t' := s.toks) kp hD (show ObjOk X.prog X.w _ h' _ (.lst [y]) from ⟨(show 1 ≤ sizeLine from Nat.le_of_lt (small1000 (by decide))), [v], c, rv, ho⟩), rfl, q _ (I.hok.fresh hD)⟩
end L2
namespace L2
open PySem PySem.Spec PyProof.Rows PySem.W
section
variable {prog : Program} {w : World} {A : Around} {E : Value → Shared → Prop} {s : Shared}
end
end L2
namespace L2
open PySem PySem.Spec PyProof.Rows PySem.W
section
variable {prog : Program} {w : World} {A : Around} {E : Value → Shared → Prop} {s : Shared} {h₀ : Heap} {L a : Addr} {m : Str → Option Value} {news : List (Addr × Obj)} {vs : List Value}
abbrev revKw : List (Str × Value) := [(Str.ofString "reverse", .bool true)]
def revEnd (a : Addr) (before : Nat) (st : SortSt) : Sem PySem.Fin := do
 let out := (arrOf st).map (·.2)
 let moved := (← seqEpoch a) != before
 Builtin.List.listUpdate (.ref a) fun _ => out.reverse
 if let some x := failedOf st then rule "list.sort.comparison-raised"; throw x
 if moved then rule "list.sort.modified"; raiseError "ValueError" "list modified during sort"
 ret .none
def revMid (a : Addr) (xs : Array Value) (before : Nat) : Sem PySem.Fin := do
 let two := xs.zip xs
 rule "list.sort.reverse"
 let kd ← if xs.size < 2 then pure general' else keyKind' xs
 let ((), st) ← (if xs.size < 2 then pure () else sortRuns').run (SortSt.mk' kd two.reverse #[] 7 none)
 revEnd a before st
theorem hC_ (a : Addr) : Builtin.«list.sort» ⟨[.ref a], revKw⟩ = (Builtin.List.listItems (.ref a) >>= fun xs => Builtin.List.listUpdate (.ref a) (fun _ => #[]) >>= fun _ => seqEpoch a >>= fun before => newTuple xs.toList >>= fun held => newList [] >>= fun store => holding [held, store] (revMid a xs before)) := rfl
theorem nj_ (xs : List Value) : ((List.toArray xs).zip (List.toArray xs)).reverse = (List.toArray xs.reverse).zip (List.toArray xs.reverse) := by
 have e := kat_pairs (ks := xs) (vs := xs) true rfl
 rw [if_pos rfl] at e
 exact e
theorem mc_ {n : Nat} {P : PySem.Fin → Shared → Prop} (F0 : Fr h₀ L s.heap m) (N0 : News h₀ L s.heap news) (got : s.heap.get? a = some (seqObj "list" vs.toArray n)) (aL : a ≠ L) (a0 : h₀.get? a = none) (na : ∀ q ∈ news, q.1 ≠ a) (two : 2 ≤ vs.length) (few : vs.length < 64)
  (ask : ∀ c h', Fr h₀ L h' m → News h₀ L h' ((a, seqObj "list" #[] c) :: news) → wpAny (model prog w) A (keyKind' vs.toArray) (fun κ s1 => (kas_sort vs.length).kasWp (kas_ask prog w A κ vs.reverse) (fun p s2 => KasFin h₀ L m a c ((p.toList.map fun i => vs.reverse.getD i Value.none).reverse) (fun s3 => P (.done (.ret .none)) s3) s2) s1) (fun _ _ => False) { s with heap := h' }) :
  wpAny (model prog w) A (Builtin.«list.sort» ⟨[.ref a], revKw⟩) P E s := by
 have lt := Heap.lt_size got
 have b1 := Heap.SameBut.update s.heap a (Obj.mapSeq fun _ => (#[] : Array Value))
 obtain ⟨c, got1⟩ : ∃ c, (s.heap.update a (Obj.mapSeq fun _ => (#[] : Array Value))).get? a = some (seqObj "list" #[] c) := ⟨_, get?_update_seq got fun _ => #[]⟩
 have F1 := ((kas_fr F0 b1 aL a0).push (seqObj "tuple" vs.toArray 0)).push (seqObj "list" #[] 0)
 have N1 := (kas_news N0 b1 na).grown (h' := ((s.heap.update a (Obj.mapSeq fun _ => (#[] : Array Value))).push (seqObj "tuple" vs.toArray 0)).push (seqObj "list" #[] 0)) fun b x e => Heap.get?_push_of_some _ (Heap.get?_push_of_some _ e)
 have N2 : News h₀ L (((s.heap.update a (Obj.mapSeq fun _ => (#[] : Array Value))).push (seqObj "tuple" vs.toArray 0)).push (seqObj "list" #[] 0)) ((a, seqObj "list" #[] c) :: news) := fun q hq => by
  rcases List.mem_cons.mp hq with rfl | hq
  ·exact ⟨Heap.get?_push_of_some _ (Heap.get?_push_of_some _ got1), aL, a0⟩
  ·exact N1 q hq
 have asked := ask c _ F1 N2
 have big : 64 ≤ sizeLine := by rw [sizeLine_eq]; decide
 rw [hC_]
 refine wpAny_bind (listItems_at got rfl (wpAny_bind (listUpdate_at got rfl (wpAny_bind (seqEpoch_at got1 rfl (wpAny_bind (wpAny_newTuple (wpAny_bind (wpAny_newList (wpAny_holding ?_) (Nat.zero_le _))) (by show vs.length ≤ _; omega))))) (by rw [List.size_toArray]; omega) (Nat.zero_le _))))
 show wpAny (model prog w) A (revMid a vs.toArray c) P E { s with heap := ((s.heap.update a (Obj.mapSeq fun _ => (#[] : Array Value))).push (seqObj "tuple" vs.toArray 0)).push (seqObj "list" #[] 0) }
 unfold revMid
 dsimp only
 have n2 : ¬ vs.toArray.size < 2 := by rw [List.size_toArray]; omega
 rw [if_neg n2, if_neg n2, nj_]
 refine wpAny_bind (wpAny_rule (wpAny_bind (wpAny_mono asked (fun κ s0 hk => ?_) fun _ _ x => x.elim)))
 have rl : vs.reverse.length = vs.length := List.length_reverse
 refine wpAny_bind (wpAny_mono (kat_run (ks := vs.reverse) (vs := vs.reverse) (Q := fun st s1 => ∃ p : Array Nat, p.size = vs.length ∧ arrOf st = p.map (kas_item (vs.reverse.toArray.zip vs.reverse.toArray)) ∧ failedOf st = none ∧ KasFin h₀ L m a c ((p.toList.map fun i => vs.reverse.getD i Value.none).reverse) (fun s2 => P (.done (.ret .none)) s2) s1)
  rfl (by omega) (by omega) (fun p st s1 x1 x2 x3 x4 => ⟨p, by rw [x1, rl], x2, x3, x4⟩) (by rw [rl]; exact hk)) ?_ fun _ _ e => e)
 rintro ⟨⟨⟩, st⟩ s1 ⟨p, hp, har, hf, news1, g, F2, N3, U, k⟩
 obtain ⟨pre, post, e0, hg, x1, x2⟩ := U.split
 rw [e0] at N3
 have now := N3 (a, seqObj "list" #[] c) (List.mem_append_right _ (.head _))
 have out := kat_snds (ks := vs.reverse) (vs := vs.reverse) rfl har
 have outr : ((arrOf st).map (·.2)).reverse = List.toArray ((p.toList.map fun i => vs.reverse.getD i Value.none).reverse) := by rw [out]; simp
 unfold revEnd
 dsimp only
 rw [outr]
 have sz : (List.toArray ((p.toList.map fun i => vs.reverse.getD i Value.none).reverse)).size = vs.length := by rw [List.size_toArray, List.length_reverse, List.length_map, Array.length_toList, hp]
 have b2 := Heap.SameBut.update s1.heap a (Obj.mapSeq fun _ => List.toArray ((p.toList.map fun i => vs.reverse.getD i Value.none).reverse))
 obtain ⟨c2, got2⟩ : ∃ c2, (s1.heap.update a (Obj.mapSeq fun _ => List.toArray ((p.toList.map fun i => vs.reverse.getD i Value.none).reverse))).get? a = some (seqObj "list" (List.toArray ((p.toList.map fun i => vs.reverse.getD i Value.none).reverse)) c2) := ⟨_, get?_update_seq now.1 fun _ => List.toArray ((p.toList.map fun i => vs.reverse.getD i Value.none).reverse)⟩
 refine wpAny_bind (seqEpoch_at now.1 rfl (wpAny_bind (listUpdate_at now.1 rfl ?_ (Nat.zero_le _) (by rw [sz]; omega))))
 rw [hf]
 simp only [bne_self_eq_false, Bool.false_eq_true, if_false]
 refine wpAny_pure (k _ c2 (kas_fr F2 b2 now.2.1 now.2.2) ?_)
 rw [hg]
 exact news_set N3 x1 x2 b2 got2
theorem is_ (x : Value) : argsOk "sorted" ⟨[x], revKw⟩ := by unfold argsOk; kernel_rfl
theorem kt_ (x : Value) : argsOk "list.sort" ⟨[x], revKw⟩ := by unfold argsOk; kernel_rfl
theorem ku_ {l : Addr} {Q : Value → Shared → Prop} (F0 : Fr h₀ L s.heap m) (N0 : News h₀ L s.heap news) (isl : s.heap.IsList l vs.toArray) (two : 2 ≤ vs.length) (few : vs.length < 64)
  (ask : ∀ D c h', Fr h₀ L h' m → News h₀ L h' ((D, seqObj "list" #[] c) :: news) → (∀ q ∈ news, q.1 < D) → wpAny (model prog w) A.in1.in1 (keyKind' vs.toArray) (fun κ s1 => (kas_sort vs.length).kasWp (kas_ask prog w A.in1.in1 κ vs.reverse) (fun p s2 => KasFin h₀ L m D c ((p.toList.map fun i => vs.reverse.getD i Value.none).reverse) (fun s3 => Q (.ref D) s3) s2) s1) (fun _ _ => False) { s with heap := h' }) :
  wpAny (model prog w) A (call (.builtin "sorted") [.ref l] revKw) Q E s := by
 have big : 64 ≤ sizeLine := by rw [sizeLine_eq]; decide
 refine call_function_entry_kw kind_sorted plain_sorted entry_sorted (is_ _) ?_
 unfold Builtin.«sorted»
 refine wpAny_bind (m := checkCount "sorted" 1 1 _) (wpAny_pure (wpAny_bind (collect_list isl (wpAny_bind (wpAny_newList ?_ (by omega))) (by omega))))
 have sz : ((s.heap.push (seqObj "list" #[] 0)).update s.heap.objs.size (Obj.mapSeq (· ++ vs.toArray))).objs.size = s.heap.objs.size + 1 := (Heap.size_update ..).trans (size_push' ..)
 obtain ⟨hx, ex⟩ : ∃ hx, hx = (s.heap.push (seqObj "list" #[] 0)).update s.heap.objs.size (Obj.mapSeq (· ++ vs.toArray)) := ⟨_, rfl⟩
 rw [← ex] at sz
 have got : (hx.push (seqObj "list" vs.toArray 0)).get? (s.heap.objs.size + 1) = some (seqObj "list" vs.toArray 0) := by
  rw [← sz]
  exact Heap.get?_push_size _ rfl
 have kp : ∀ b o, s.heap.get? b = some o → (hx.push (seqObj "list" vs.toArray 0)).get? b = some o := fun b o q => by
  have hb := Heap.lt_size q
  rw [Heap.get?_push_ne _ _ _ (by rw [sz]; exact Nat.ne_of_lt (Nat.lt_succ_of_lt hb)), ex, Heap.get?_update_ne _ _ _ _ (Nat.ne_of_lt hb), Heap.get?_push_ne _ _ _ (Nat.ne_of_lt hb)]
  exact q
 have hL := F0.ns.lt
 show wpAny _ _ _ _ _ { s with heap := ((s.heap.push (seqObj "list" #[] 0)).update s.heap.objs.size (Obj.mapSeq (· ++ vs.toArray))).push (seqObj "list" vs.toArray 0) }
 rw [← ex, sz]
 refine wpAny_bind (wpAny_holding (wpAny_call_entry_kw slot_list_sort ⟨_, got, rfl⟩ entry_list_sort ?body (kt_ _)))
 case body =>
  show wpAny (model prog w) A.in1.in1 (Builtin.«list.sort» ⟨[.ref (s.heap.objs.size + 1)], revKw⟩) _ _ _
  refine mc_ (s := { s with heap := hx.push (seqObj "list" vs.toArray 0) }) (F0.kept kp) (N0.grown kp) got (Nat.ne_of_gt (Nat.lt_succ_of_lt hL)) (Heap.get?_none_of_le (Nat.le_trans F0.above (Nat.le_succ_of_le (Nat.le_of_lt hL)))) (fun q hq => Nat.ne_of_lt (Nat.lt_succ_of_lt (Heap.lt_size (N0 q hq).1))) two few fun c h' F' N' => ?_
  refine wpAny_mono (ask _ c h' F' N' fun q hq => Nat.lt_succ_of_lt (Heap.lt_size (N0 q hq).1)) (fun κ s1 hk => ?_) fun _ _ x => x
  rw [kat_ask_eq (vs := vs.reverse) rfl] at hk ⊢
  exact kas_wp_mono hk fun p s2 hk2 => hk2.mono fun s3 hq => ⟨_, rfl, wpAny_pure ⟨_, rfl, hq⟩⟩
end
section
variable {X : Cx} {pins : List (Addr × Obj)} {σ : St} {H : Hp} {s : Shared}
theorem kv_ {Q : VK} {p : Addr} {ys : List V} {lt : Nat → Nat → Bool} {κ : SortKind} {pm : Array Nat} (I : Inv X pins σ H s) (hq : SqL X.K H p ys) (h2 : 2 ≤ ys.length) (h64 : ys.length < 64)
  (kind : ∀ (its : List Value) (s' : Shared), Vals ys its → Inv X pins σ H s' → ∀ C : SortKind → Shared → Prop, C κ s' → wpAny (model X.prog X.w) X.A.in1.in1 (keyKind' its.toArray) C (fun _ _ => False) s')
  (less : ∀ (its : List Value) (s' : Shared) (i j : Nat), Vals ys.reverse its → Inv X pins σ H s' → i < ys.length → j < ys.length → ∀ C : Bool → Shared → Prop, C (lt i j) s' → wpAny (model X.prog X.w) X.A.in1.in1 (keyLt' κ (its.getD i Value.none) (its.getD j Value.none)) C (fun _ _ => False) s')
  (run : runT lt ys.length (kas_sort ys.length) = some pm) (hz : pm.size ≤ 1000) (q : ∀ l, H l = none → Q (.ref l) (upd H l (.lst (pm.toList.map fun i => ys.reverse.getD i .non).reverse))) :
  wpAny (model X.prog X.w) X.A (call (.builtin "sorted") [.ref p] revKw) (EP X pins σ Q) X.xe s := by
 obtain ⟨its, rv, pl, _⟩ := I.list hq
 have hl := rv.length
 obtain ⟨m, hn, F0⟩ := I.frm
 refine ku_ F0 hk_ pl.isList (by omega) (by omega) fun D e1 h1 F1 N1 lt1 => ?_
 have N1' : News X.base X.env.locals h1 (allNews X.base s.heap X.env.locals) := fun z hz' => N1 z (List.mem_cons_of_mem _ hz')
 have ND := N1 (D, _) List.mem_cons_self
 have fr : ∀ b o, s.heap.get? b = some o → b ≠ D := fun b o e w => by
  subst w
  exact absurd (lt1 (b, o) (cV_ ND.2.1 ND.2.2 e)) (Nat.lt_irrefl _)
 have HD : H D = none := by
  cases w : H D with
  | none => rfl
  | some u =>
   obtain ⟨o, g⟩ := ob_is (I.hok D u w)
   exact absurd rfl (fr D o g)
 have I1 : Inv X pins σ H { s with heap := h1, toks := s.toks } := I.led hn F1 N1' (fun _ _ _ n => n) (fun _ _ w => w) (fun b o w n => by rw [w] at n; cases n)
 have rvr : Vals ys.reverse its.reverse := rv.reverse
 refine kind its _ rv I1 _ ?_
 rw [← hl]
 refine lf_ (lt := lt) (n := ys.length) (fun i j C hi hj hC => less its.reverse _ i j rvr I1 hi hj C hC) _ run ?_
 refine KasFin.intro F1 N1 (.head fun z hz' w => ?_) fun h2' c F2 N2 => ?_
 ·exact absurd (lt1 z hz') (by rw [w]; exact Nat.lt_irrefl _)
 ·have N2' : News X.base X.env.locals h2' (allNews X.base s.heap X.env.locals) := fun z hz' => N2 z (List.mem_cons_of_mem _ hz')
  have hD := (N2 (D, _) List.mem_cons_self).1
  refine ⟨.ref D, upd H D (.lst (pm.toList.map fun i => ys.reverse.getD i .non).reverse), I.led (t' := s.toks) hn F2 N2' (fun b o e n => by rw [af_ (fr b o e)]; exact n) (fun b o e => by rw [af_ (ag_ e HD)]; exact e) (fun b o e n => ?_), rfl, q D HD⟩
  by_cases hb : b = D
  ·subst hb
   rw [ac_] at e
   cases e
   exact ⟨Nat.le_of_lt (small1000 (by simp; omega)), _, c, (iq_ rvr _).reverse, hD⟩
  ·rw [af_ hb, n] at e
   cases e
end
end L2
namespace L2
open PySem PySem.Spec PyProof.Rows PySem.W
section
variable {X : Cx} {pins : List (Addr × Obj)} {σ : St} {H : Hp} {s : Shared}
def firT (T : String) : V → Prop
 | .int _ => T = "int"
 | .str _ => T = "str"
 | _ => False
theorem gk_ (T : String) (I : Inv X pins σ H s) : ∀ {ys : List V} {its : List Value}, Vals ys its → (∀ y ∈ ys, ∃ a x z, y = .ref a ∧ H a = some (.tup [x, z]) ∧ firT T x) →
  ∃ fs, KatTups s.heap its fs ∧ fs.length = its.length ∧ ∀ v ∈ fs, Looks (model X.prog X.w) s.heap (typeOf v) (.type T)
 | [], _, .nil, _ => ⟨[], .nil, rfl, fun v hv => nomatch hv⟩
 | y :: ys, _, .cons r1 r2, h => by
  obtain ⟨fs, t, hl, hf⟩ := gk_ T I r2 fun y hy => h y (List.mem_cons_of_mem _ hy)
  obtain ⟨a, x, z, rfl, ha, fx⟩ := h _ List.mem_cons_self
  cases r1
  obtain ⟨zs, rz, ⟨ob, ho, hcl, n, hd⟩, _⟩ := I.tuple (.inl (.inl ha))
  obtain ⟨u, w', rfl, ru, rw'⟩ := vals2 rz
  refine ⟨u :: fs, .cons ho hcl hd rfl t, by simp [hl], fun v hv => ?_⟩
  rcases List.mem_cons.mp hv with rfl | hv
  ·cases x with
   | int i => obtain ⟨t, rfl⟩ := ru; cases fx; exact .now
   | str i => obtain ⟨t, rfl⟩ := ru; cases fx; exact .now
   | _ => exact absurd fx (by simp [firT])
  ·exact hf v hv
theorem it_ (I : Inv X pins σ H s) {a b : Addr} {x1 x2 y1 y2 : V} {d1 d2 e1 e2 : Dt} {b1 b2 : Bool} {C : Bool → Shared → Prop} {A : Around} {E : Value → Shared → Prop} (hu : A.units + 60 < cLine)
  (ha : H a = some (.tup [x1, x2])) (hb : H b = some (.tup [y1, y2])) (r1 : Rep H x1 d1) (r2 : Rep H x2 d2) (q1 : Rep H y1 e1) (q2 : Rep H y2 e2) (h1 : deq d1 e1 = some b1) (h2 : deq d2 e2 = some b2) (z1 : dep d1 ≤ 50) (z2 : dep d2 ≤ 50)
  (c1 : b1 = false → ∀ u v, RelV x1 u → RelV y1 v → wpAny (model X.prog X.w) A (oneLt' true u v) C (fun _ _ => False) s)
  (c2 : b1 = true → b2 = false → ∀ u v, RelV x2 u → RelV y2 v → wpAny (model X.prog X.w) A (oneLt' false u v) C (fun _ _ => False) s)
  (c3 : b1 = true → b2 = true → C false s) : wpAny (model X.prog X.w) A (keyLt' (tuples' true) (.ref a) (.ref b)) C E s := by
 obtain ⟨zs, rz, ⟨ob, ho, hcl, n, hd⟩, _⟩ := I.tuple (.inl (.inl ha))
 obtain ⟨u1, u2, rfl, ru1, ru2⟩ := vals2 rz
 obtain ⟨ws, rw, ⟨ob', ho', hcl', n', hd'⟩, _⟩ := I.tuple (.inl (.inl hb))
 obtain ⟨v1, v2, rfl, rv1, rv2⟩ := vals2 rw
 refine kat_lt ho hd ho' hd' ?_
 refine kat_cons (k7_ I Vw.refl d1 e1 r1 q1 ru1 rv1 h1 (by omega) _ _ _ _ ?_)
 cases b1 with
 | false => exact kat_no (c1 rfl _ _ ru1 rv1)
 | true =>
  refine kat_yes (kat_cons (k7_ I Vw.refl d2 e2 r2 q2 ru2 rv2 h2 (by omega) _ _ _ _ ?_))
  cases b2 with
  | false => exact kat_no (c2 rfl rfl _ _ ru2 rv2)
  | true => exact kat_yes (kat_nil (c3 rfl rfl))
end
def tSortRev (ta : TA) : TE := fun σ H Q => ta σ H fun vs H1 => ∃ (p x y : Addr) (c d : Int × Int), vs = [.ref p] ∧ H1 p = some (.lst [.ref x, .ref y]) ∧ H1 x = some (.tup [.int c.1, .int c.2]) ∧ H1 y = some (.tup [.int d.1, .int d.2]) ∧ ∀ l zs, H1 l = none → (zs = [V.ref x, V.ref y] ∨ zs = [V.ref y, V.ref x]) → Q (.ref l) (upd H1 l (.lst zs))
theorem md_ {p : Array Nat} (h : Pm 2 p) : p.toList = [0, 1] ∨ p.toList = [1, 0] := by
 have e := Array.perm_iff_toList_perm.mp h
 have hl : p.toList.length = 2 := by simpa using e.length_eq
 match hp : p.toList, hl with
 | [a, b], _ =>
  rw [hp] at e
  have m0 := e.mem_iff (a := 0)
  have m1 := e.mem_iff (a := 1)
  have ma := e.mem_iff (a := a)
  have mb := e.mem_iff (a := b)
  simp [List.range, List.range.loop] at m0 m1 ma mb
  rcases ma with rfl | rfl <;> rcases mb with rfl | rfl <;> simp_all
theorem iu_ {X : Cx} (hu : X.A.units + 64 < cLine) {pins : List (Addr × Obj)} {s : Shared} {σ : St} {H : Hp} {p x y : Addr} {c d : Int × Int} {Q : VK} (I : Inv X pins σ H s) (hp : H p = some (.lst [.ref x, .ref y])) (hx : H x = some (.tup [.int c.1, .int c.2])) (hy : H y = some (.tup [.int d.1, .int d.2]))
  (q : ∀ l zs, H l = none → (zs = [V.ref x, V.ref y] ∨ zs = [V.ref y, V.ref x]) → Q (.ref l) (upd H l (.lst zs))) : wpAny (model X.prog X.w) X.A (call (.builtin "sorted") [.ref p] revKw) (EP X pins σ Q) X.xe s := by
 have all : ∀ z ∈ [V.ref x, V.ref y], ∃ (a : Addr) (e : Int × Int), z = .ref a ∧ H a = some (.tup [.int e.1, .int e.2]) := fun z hz => by
  rcases List.mem_cons.mp hz with rfl | hz
  ·exact ⟨x, c, rfl, hx⟩
  ·rw [List.mem_singleton.mp hz]; exact ⟨y, d, rfl, hy⟩
 let lt : Nat → Nat → Bool := fun i j => let e := if i = 0 then d else c; let f := if j = 0 then d else c; if e.1 = f.1 then (if e.2 = f.2 then false else decide (e.2 < f.2)) else decide (e.1 < f.1)
 obtain ⟨pm, hr, hpm⟩ := jY_ (lt := lt) (N := 2) (by decide)
 have pz : pm.size = 2 := by simpa using (Array.perm_iff_toList_perm.mp hpm).length_eq
 refine kv_ (lt := lt) (κ := tuples' true) (pm := pm) I (.inl (.inl hp)) (Nat.le_refl _) (by show 2 < 64; decide) ?kind ?less hr (by omega) fun l nl => q l _ nl ?_
 case kind =>
  intro its s' rv I' C hC
  obtain ⟨fs, t, hf, lk⟩ := gk_ "int" I' rv fun z hz => by
   obtain ⟨a, e, rfl, ha⟩ := all z hz
   exact ⟨a, _, _, rfl, ha, rfl⟩
  have hl := rv.length
  have hl2 : fs.length = 2 := by rw [hf, ← hl]; rfl
  exact kat_kind t (by omega) lk (by decide) hC
 case less =>
  intro its s' i j rv I' hi hj C hC
  have u2 : X.A.in1.in1.units + 60 < cLine := by rw [PySem.Around.in1_units, PySem.Around.in1_units]; omega
  have pick : ∀ i, i < 2 → ∃ a, its.getD i Value.none = .ref a ∧ H a = some (.tup [.int (if i = 0 then d else c).1, .int (if i = 0 then d else c).2]) := fun i hi => by
   obtain ⟨u, w', rfl, ru, rw'⟩ := vals2 (show Vals [V.ref y, V.ref x] its from rv)
   cases ru
   cases rw'
   match i, hi with
   | 0, _ => exact ⟨y, rfl, hy⟩
   | 1, _ => exact ⟨x, rfl, hx⟩
  obtain ⟨a, ea, ha⟩ := pick i hi
  obtain ⟨b, eb, hb⟩ := pick j hj
  rw [ea, eb]
  have hlt : lt i j = if (if i = 0 then d else c).1 = (if j = 0 then d else c).1 then (if (if i = 0 then d else c).2 = (if j = 0 then d else c).2 then false else decide ((if i = 0 then d else c).2 < (if j = 0 then d else c).2)) else decide ((if i = 0 then d else c).1 < (if j = 0 then d else c).1) := rfl
  rw [hlt] at hC
  generalize (if i = 0 then d else c) = e at *
  generalize (if j = 0 then d else c) = f at *
  refine it_ I' u2 ha hb (d1 := .int e.1) (d2 := .int e.2) (e1 := .int f.1) (e2 := .int f.2) (b1 := decide (e.1 = f.1)) (b2 := decide (e.2 = f.2)) rfl rfl rfl rfl (by rw [deq]; rfl) (by rw [deq]; rfl) (by simp [dep]) (by simp [dep]) (fun h u v ru rv => ?_) (fun h1 h2 u v ru rv => ?_) (fun h1 h2 => ?_)
  ·obtain ⟨t, rfl⟩ := ru
   obtain ⟨t', rfl⟩ := rv
   rw [if_neg (of_decide_eq_false h)] at hC
   exact oneLt_int hC
  ·obtain ⟨t, rfl⟩ := ru
   obtain ⟨t', rfl⟩ := rv
   rw [if_pos (of_decide_eq_true h1), if_neg (of_decide_eq_false h2)] at hC
   exact kat_one _ _ (lt_int hC)
  ·rw [if_pos (of_decide_eq_true h1), if_pos (of_decide_eq_true h2)] at hC
   exact hC
 ·rcases md_ hpm with e | e <;> rw [e]
  ·exact .inl rfl
  ·exact .inr rfl
theorem kw_ {X : Cx} {a : Expr} {ta : TA} {p pos cp kp : Pos} {k : Nat} (hu : X.A.units + 64 < cLine) (hg : Gl X "sorted") (hm : X.mg "sorted" = none) (ha : PA X [a] ta) (hs : plainArgs [a] = true := by rfl) :
  PE X (.Call (.Name "sorted" p) [a] [⟨some "reverse", .Constant (.bool true) k cp, kp⟩] pos) (tSortRev ta) := by
 have h' : notStar a = true := by simpa [plainArgs] using hs
 intro pins s σ H Q I h
 refine wpAny_Call_Name_kw (ev_ I hg hm ib_ ?_ (by decide) (by decide))
 refine callWith_kw (thn (ha pos pins s σ H _ I h) fun us s1 ⟨vs, H1, I1, r1, q1⟩ => ?_) (by rw [aC_ h']; rfl) (by rw [aC_ h']; rfl) rfl rfl
 obtain ⟨p, x, y, c, d, rfl, hp, hx, hy, q⟩ := q1
 obtain ⟨u, rfl, e⟩ := vals1 r1
 cases e
 refine kws_cons (thn (pe_bl pins s1 σ H1 (fun v H2 => v = .bl true ∧ H2 = H1) I1 ⟨rfl, rfl⟩) fun v s2 ⟨z, H2, I2, r2, e1, e2⟩ => ?_)
 subst e1 e2
 cases r2
 exact kws_nil (iu_ hu I2 hp hx hy q)
def rSortW : List V → Hp → VK → Prop := fun vs H Q => ∃ (p : Addr) (ys : List V) (nm : Nat → Str), vs = [.ref p] ∧ H p = some (.lst ys) ∧ ys.length < 64 ∧
 (∀ i, i < ys.length → ∃ (a w : Addr) (e : Int × Int), ys[i]? = some (.ref a) ∧ H a = some (.tup [.str (nm i), .ref w]) ∧ H w = some (.tup [.int e.1, .int e.2])) ∧ (∀ i j, i < ys.length → j < ys.length → nm i = nm j → i = j) ∧
 ∀ l zs, H l = none → zs.Perm ys → Q (.ref l) (upd H l (.lst zs))
theorem lj_ {pm : Array Nat} {ys : List V} (h : Pm ys.length pm) : (pm.toList.map fun i => ys.getD i .non).Perm ys := by
 have e := Array.perm_iff_toList_perm.mp h
 have e2 : (List.range ys.length).map (fun i => ys.getD i .non) = ys := by
  apply List.ext_getElem
  ·simp
  ·intro i h1 h2
   simp [h2]
 have e3 := e.map fun i => ys.getD i V.non
 rw [List.toList_toArray, e2] at e3
 exact e3
theorem kx_ {X : Cx} (hu : X.A.units + 64 < cLine) : CallR X (.builtin "sorted") rSortW := by
 intro pins s σ H xs us Q I r h
 obtain ⟨p, ys, nm, rfl, hp, h64, it, inj, q⟩ := h
 by_cases h0 : ys.length = 0
 ·have e0 : ys = [] := List.eq_nil_of_length_eq_zero h0
  subst e0
  exact kr_ pins s σ H _ us Q I r ⟨p, [], rfl, hp, by decide, fun l zs nl pm _ => q l _ nl (by rw [pm.eq_nil]; exact .nil)⟩
 by_cases h1 : ys.length = 1
 ·obtain ⟨y, rfl⟩ := List.length_eq_one_iff.mp h1
  exact ks_ pins s σ H _ us Q I r ⟨p, y, rfl, hp, fun l nl => q l _ nl (.refl _)⟩
 obtain ⟨u, rfl, e⟩ := vals1 r
 cases e
 let lt : Nat → Nat → Bool := fun i j => if nm i = nm j then false else decide ((nm i).cps.toList < (nm j).cps.toList)
 obtain ⟨pm, hr, hpm⟩ := jY_ (lt := lt) (N := ys.length) (by omega)
 have pz : pm.size = ys.length := by simpa using (Array.perm_iff_toList_perm.mp hpm).length_eq
 refine lg_ (lt := lt) (κ := tuples' true) (pm := pm) I (.inl (.inl hp)) (by omega) h64 ?kind ?less hr (by omega) fun l nl => q l _ nl (lj_ hpm)
 case kind =>
  intro its s' rv I' C hC
  obtain ⟨fs, t, hf, lk⟩ := gk_ "str" I' rv fun z hz => by
   obtain ⟨i, hi, rfl⟩ := List.mem_iff_getElem.mp hz
   obtain ⟨a, w, e, ea, ha, _⟩ := it i hi
   rw [List.getElem?_eq_getElem hi] at ea
   exact ⟨a, _, _, Option.some.inj ea, ha, rfl⟩
  have hl := rv.length
  exact kat_kind t (by omega) lk (by decide) hC
 case less =>
  intro its s' i j rv I' hi hj C hC
  have u2 : X.A.in1.in1.units + 60 < cLine := by rw [PySem.Around.in1_units, PySem.Around.in1_units]; omega
  have pick : ∀ i, i < ys.length → ∃ (a w : Addr) (e : Int × Int), its.getD i Value.none = .ref a ∧ H a = some (.tup [.str (nm i), .ref w]) ∧ H w = some (.tup [.int e.1, .int e.2]) := fun i hi => by
   obtain ⟨a, w, e, ea, ha, hw⟩ := it i hi
   obtain ⟨u, hu', ru⟩ := rv.get ea
   cases ru
   exact ⟨a, w, e, by rw [List.getD_eq_getElem?_getD, hu']; rfl, ha, hw⟩
  obtain ⟨a, w1, e, ea, ha, hw1⟩ := pick i hi
  obtain ⟨b, w2, f, eb, hb, hw2⟩ := pick j hj
  have rw1 : Rep H (.ref w1) (.tup [.int e.1, .int e.2]) := ⟨w1, _, rfl, hw1, _, _, rfl, rfl, _, _, rfl, rfl, rfl⟩
  have rw2 : Rep H (.ref w2) (.tup [.int f.1, .int f.2]) := ⟨w2, _, rfl, hw2, _, _, rfl, rfl, _, _, rfl, rfl, rfl⟩
  rw [ea, eb]
  have hlt : lt i j = if nm i = nm j then false else decide ((nm i).cps.toList < (nm j).cps.toList) := rfl
  rw [hlt] at hC
  have same : nm i = nm j → e = f := fun hn => by
   have hij := inj i j hi hj hn
   subst hij
   rw [ea] at eb
   cases eb
   rw [ha] at hb
   cases hb
   rw [hw1] at hw2
   have h3 := HO.tup.inj (Option.some.inj hw2)
   have h4 := List.cons.inj h3
   have h5 := List.cons.inj h4.2
   exact Prod.ext (V.int.inj h4.1) (V.int.inj h5.1)
  refine it_ I' u2 ha hb (d1 := .str (nm i)) (d2 := .tup [.int e.1, .int e.2]) (e1 := .str (nm j)) (e2 := .tup [.int f.1, .int f.2]) (b1 := decide (nm i = nm j)) (b2 := decide (e.1 = f.1) && decide (e.2 = f.2)) rfl rw1 rfl rw2 (by rw [deq]; rfl) ?eq2 (by simp [dep]) (by simp [dep, deps]) (fun h u v ru rv => ?_) (fun h1 h2 u v ru rv => ?_) (fun h1 h2 => ?_)
  case eq2 => simp [deq, deqs]; rfl
  ·obtain ⟨t, rfl⟩ := ru
   obtain ⟨t', rfl⟩ := rv
   rw [if_neg (of_decide_eq_false h)] at hC
   exact oneLt_str hC
  ·have := same (of_decide_eq_true h1)
   subst this
   simp at h2
  ·rw [if_pos (of_decide_eq_true h1)] at hC
   exact hC
end L2
namespace L2
open PySem PySem.Spec PyProof.Rows PySem.W
def rMulS : R2 := fun x y H Q => ∃ i n, x = .str i ∧ y = .int n ∧ MulOk i n ∧ Q (.str (Txt.mul i n)) H
theorem g4_ {X : Cx} : OpR X (binaryOp .Mult) rMulS := by
 intro pins s σ H x y v u Q I rx ry h
 obtain ⟨i, n, rfl, rfl, ok, q⟩ := h
 obtain ⟨t, rfl⟩ := rx
 obtain ⟨t', rfl⟩ := ry
 exact SB.mul ok fun t' k => ⟨.str (Txt.mul i n), H, I.tok _, ⟨_, rfl⟩, q⟩
section
variable {prog : Program} {w : World} {A : Around} {E : Value → Shared → Prop} {s : Shared}
end
theorem lk_ (i j : Str) : (i ++ j).length = i.length + j.length := by
 show (i.cps ++ j.cps).size = _
 rw [Array.size_append]
 rfl
end L2
namespace L2
open PySem PySem.Spec PyProof.Rows PySem.W
def rSlS : V → Option Int → Option Int → Hp → VK → Prop := fun x lo hi H Q => ∃ z : Str, x = .str z ∧ z.length ≤ sizeLine ∧ ∀ y : Str, y.length ≤ z.length → (∀ c ∈ y.cps.toList, c ∈ z.cps.toList) → Q (.str y) H
theorem ll_ {v : Value} {o : Option Int} (h : IsPart v o) : ∃ l : Option (Int × Tok), v = partValue l ∧ l.map (·.1) = o := by
 cases h with
 | none => exact ⟨none, rfl, rfl⟩
 | int i t => exact ⟨some (i, t), rfl, rfl⟩
theorem mK_ {X : Cx} : SlR X rSlS := by
 intro pins s σ H x v vl vu lo hi sl Q I rx hs pl pu h
 obtain ⟨z, rfl, hz, q⟩ := h
 obtain ⟨t, rfl⟩ := rx
 obtain ⟨l, rfl, el⟩ := ll_ pl
 obtain ⟨u, rfl, eu⟩ := ll_ pu
 refine ⟨"str", _, F.slot_str_getitem.lookup, typeIs_str _ _ _, ?_⟩
 refine wpAny_getItem_str_slice (l := l) (u := u) (st := none) hs rfl ?_
 have le := sliceIndices_le (l.map (·.1)) (u.map (·.1)) z.length
 unfold sliceMade
 by_cases hc : (((none : Option (Int × Tok)).map (·.1)).getD 1 == 1 && (slicePicked z l u none).length == z.length) = true
 ·rw [if_pos hc]
  exact ⟨.str z, H, I, ⟨_, rfl⟩, q z (Nat.le_refl _) fun _ h => h⟩
 ·rw [if_neg hc]
  have hl : (⟨((slicePicked z l u none).filterMap (z.cps[·]?)).toArray⟩ : Str).length ≤ z.length := by
   show (((slicePicked z l u none).filterMap (z.cps[·]?)).toArray).size ≤ _
   rw [List.size_toArray]
   exact Nat.le_trans (List.length_filterMap_le _ _) le
  refine ⟨Nat.le_trans hl hz, .str _, H, I.tok _, ⟨_, rfl⟩, q _ hl fun c hc => ?_⟩
  have hc2 : c ∈ (slicePicked z l u none).filterMap (z.cps[·]?) := by simpa using hc
  obtain ⟨i, _, hi⟩ := List.mem_filterMap.mp hc2
  exact Array.mem_toList_iff.mpr (Array.mem_of_getElem? hi)
end L2
namespace L2
open PySem PySem.Spec PyProof.Rows PySem.W
def rSetDef : V → List V → Hp → VK → Prop := fun x vs H Q => ∃ (a : Addr) (kvs : List (Key × V)) (k : Key) (z : V), x = .ref a ∧ vs = [kV k, z] ∧ H a = some (.dK kvs) ∧ kvs.length < 1000 ∧ (∀ v, valV kvs k = some v → Q v H) ∧ (valV kvs k = none → Q z (upd H a (.dK (putK kvs k z))))
theorem eB_ {X : Cx} : MtR X "dict.setdefault" rSetDef := by
 intro pins s σ H x xs v us Q I rx r h
 obtain ⟨a, kvs, k, z, rfl, rfl, e, hz, h1, h2⟩ := h
 cases rx
 obtain ⟨u, w', rfl, ru, rw'⟩ := vals2 r
 obtain ⟨_, hd, vs, rel, dd⟩ := dk_of I.hok e
 have hl : vs.length ≤ sizeLine := by rw [← rel.length]; exact Nat.le_of_lt (small1000 (Nat.le_of_lt hz))
 refine call_meetsIn PySem.F.slot_dict_setdefault dd.typeIs PySem.F.entry_dict_setdefault (PySem.F.args_dict_setdefault_3 _ _ _) (kt_meets_setdefault (mixKind X.prog X.w) a (kV_is ru) hd w') ⟨vs, dd, hl, fun v hv => ?_, fun hn h' dd' hs => ?_⟩
 ·have rv := rel.val k
  rw [hv] at rv
  cases e2 : valV kvs k with
  | none => rw [e2] at rv; cases rv
  | some y =>
   rw [e2] at rv
   exact ⟨y, H, I.tok _, rv, h1 y e2⟩
 ·have rv := rel.val k
  rw [hn] at rv
  cases e2 : valV kvs k with
  | some y => rw [e2] at rv; cases rv
  | none =>
   have he : ∃ q, h'.get? a = some q := let ⟨q, _, _, hq, _⟩ := dd'; ⟨q, hq⟩
   have pl : (putK kvs k z).length ≤ sizeLine := by
    have := bn_ kvs k z
    have := small1000 (n := 1000) (Nat.le_refl _)
    omega
   exact ⟨z, _, hx_ (t' := s.toks + 1) I (by rw [e]; exact True.intro) hs he (lc_ pl hd (rel.put k rw') dd'), rw', h2 e2⟩
def Idv (d : Addr) (ob : Obj) (kvs : List (Key × V)) : It :=
 ⟨fun i H => H d = some (.frz ob (.dK kvs)) ∧ i < kvs.length, fun i H x H' => H' = H ∧ ∃ k, kvs[i]? = some (k, x), fun i H => H d = some (.frz ob (.dK kvs)) ∧ kvs.length ≤ i⟩
def Idk (d : Addr) (ob : Obj) (kvs : List (Key × V)) : It :=
 ⟨fun i H => H d = some (.frz ob (.dK kvs)) ∧ i < kvs.length, fun i H x H' => H' = H ∧ ∃ k v, kvs[i]? = some (k, v) ∧ x = kV k, fun i H => H d = some (.frz ob (.dK kvs)) ∧ kvs.length ≤ i⟩
theorem g5_ {α β : Type} {F : α → β → Prop} : ∀ {l : List α} {m : List β} {i : Nat} {a : α} {b : β}, Paired F l m → l[i]? = some a → m[i]? = some b → F a b
 | _, _, _, _, _, .nil, h, _ => by cases h
 | _, _, 0, _, _, .cons x _, h1, h2 => by cases h1; cases h2; exact x
 | _, _, i + 1, _, _, .cons _ r, h1, h2 => g5_ (i := i) r h1 h2
theorem lm_ {P : Program} {w : World} {H : Hp} {h : Heap} {d : Addr} {ob : Obj} {kvs : List (Key × V)} {es0 : Array DictEntry} {ep : Nat} (ok : HOk P w H h) (e : H d = some (.frz ob (.dK kvs))) (hd : ob.data = .dict es0 ep) : ∃ vs, KV kvs vs ∧ h.DictAt (mixKind P w) d vs ep := by
 obtain ⟨g, _, _, vs, rel, o, es, ep', ho, r1, r2, r3⟩ := (show ObjOk P w H h d (.frz ob (.dK kvs)) from ok d _ e)
 rw [g] at ho
 cases ho
 rw [hd] at r2
 cases r2
 exact ⟨vs, rel, ob, es0, g, r1, hd, r3⟩
theorem Inv.freeze {X : Cx} {pins : List (Addr × Obj)} {σ : St} {H : Hp} {s : Shared} {d : Addr} {kvs : List (Key × V)} (I : Inv X pins σ H s) (e : H d = some (.dK kvs)) : ∃ ob es0 ep, ob.data = .dict es0 ep ∧ s.heap.get? d = some ob ∧ Inv X pins σ (upd H d (.frz ob (.dK kvs))) s := by
 obtain ⟨z, hd, vs, rel, dd⟩ := dk_of I.hok e
 obtain ⟨ob, es, ep, ho, r1, r2, r3⟩ := id dd
 refine ⟨ob, es, ep, r2, ho, ?_⟩
 have := hx_ (h' := s.heap) (t' := s.toks) (ob := .frz ob (.dK kvs)) I (by rw [e]; exact True.intro) ⟨rfl, fun _ _ => rfl⟩ ⟨ob, ho⟩ ⟨ho, z, hd, vs, rel, dd⟩
 exact this
def iDK (td : TE) : TI := fun σ H R => td σ H fun x H1 => ∃ (d : Addr) (kvs : List (Key × V)), x = .ref d ∧ H1 d = some (.dK kvs) ∧ ∀ ob, R (Idk d ob kvs) (upd H1 d (.frz ob (.dK kvs)))
def iDV (td : TE) : TI := fun σ H R => td σ H fun x H1 => ∃ (d : Addr) (kvs : List (Key × V)), x = .ref d ∧ H1 d = some (.dK kvs) ∧ ∀ ob, R (Idv d ob kvs) (upd H1 d (.frz ob (.dK kvs)))
theorem nk_ {K : PySem.W.Frag} {a : Addr} {xs : List V} {g : TG} {tb : TS} {D : Ends} {σ : St} {H : Hp} (Pv : Nat → St → Hp → Prop) (h0 : Pv 0 σ H) (hl : ∀ i σ H, i ≤ xs.length → Pv i σ H → SqL K H a xs)
  (hs : ∀ i x T σ H, xs[i]? = some x → Pv i σ H → H T = none → g (.ref T) σ (upd H T (.tup [.int i, x])) fun σ2 H2 => tb { D with nx := Pv (i + 1), ct := Pv (i + 1), bk := D.nx } σ2 H2) (hd : ∀ σ H, Pv xs.length σ H → D.nx σ H) : ForGo (Ite K a) g tb D σ H := by
 refine ⟨fun i m σ H => m = xs.length - i ∧ i ≤ xs.length ∧ Pv i σ H, ⟨xs.length, by simp, Nat.zero_le _, h0⟩, ?_⟩
 rintro i m σ H ⟨rfl, hi, p⟩
 have q := hl i σ H hi p
 by_cases hlt : i < xs.length
 ·refine .inr ⟨⟨xs, xs[i], q, by simp [hlt]⟩, Pv (i + 1), fun σ' H' p' => ⟨xs.length - (i + 1), by omega, rfl, hlt, p'⟩, fun x H' y => ?_⟩
  obtain ⟨T, y, rfl, hT, rfl, hy⟩ := y
  exact hs i y T σ H (hy xs q) p hT
 ·have e : i = xs.length := by omega
  subst e
  exact .inl ⟨⟨xs, q, Nat.le_refl _⟩, hd σ H p⟩
end L2
namespace L2
open PySem PySem.Spec PyProof.Rows PySem.W
section
variable {prog : Program} {w : World} {A : Around} {E : Value → Shared → Prop} {s : Shared}
end
def gLst2 (t : TGs) : TG := fun v σ H Q => ∃ (a : Addr) (x y : V), v = .ref a ∧ H a = some (.lst [x, y]) ∧ t [x, y] σ H Q
end L2
namespace RimT
variable {S : Type} [DecidableEq S]
structure Net (S : Type) where
 posts : List S
 rows : List (S × List S)
 worths : List (S × (Int × Int))
def Net.all (N : Net S) : List S := (N.rows.map (·.2)).flatten
structure NetOk (N : Net S) : Prop where
 nd : (N.rows.map (·.1)).Nodup
 two : ∀ x ∈ N.all, N.all.count x = 2
 few : N.rows.length ≤ 16
 tot : N.all.length ≤ 30
 pl : N.posts.length ≤ 6
 wl : N.worths.length ≤ 15
def rowsOf (ns ws : Nat → S) (T : List (List Nat)) (ord : List Nat) : List (S × List S) := ord.map fun p => (ns p, (T.getD p []).map ws)
theorem ln_ {α : Type} {l m : List (List α)} (h : l.Perm m) : l.flatten.Perm m.flatten := by
 induction h with
 | nil => exact .nil
 | cons x _ ih => rw [List.flatten_cons, List.flatten_cons]; exact ih.append_left x
 | swap x y l => rw [List.flatten_cons, List.flatten_cons, List.flatten_cons, List.flatten_cons, ← List.append_assoc, ← List.append_assoc]; exact List.perm_append_comm.append_right _
 | trans _ _ h1 h2 => exact h1.trans h2
theorem ky_ {α : Type} (d : α) (l : List α) : (List.range l.length).map (fun i => l.getD i d) = l := by
 apply List.ext_getElem
 ·simp
 ·intro i h1 h2
  simp [h2]
theorem jZ_ {ns ws : Nat → S} {T : List (List Nat)} {ord : List Nat} (h : ord.Perm (List.range T.length)) : (((rowsOf ns ws T ord).map (·.2)).flatten).Perm (T.flatten.map ws) := by
 have e : (rowsOf ns ws T ord).map (·.2) = (ord.map fun p => T.getD p []).map fun l => l.map ws := by
  unfold rowsOf
  rw [List.map_map, List.map_map]
  rfl
 rw [e, ← List.map_flatten]
 refine List.Perm.map _ ?_
 have h2 := h.map fun p => T.getD p []
 rw [ky_] at h2
 exact ln_ h2
theorem eC_ {α β : Type} [DecidableEq α] [DecidableEq β] {f : α → β} {x : α} : ∀ {l : List α}, (∀ a ∈ l, f a = f x → a = x) → (l.map f).count (f x) = l.count x
 | [], _ => rfl
 | a :: l, h => by
  rw [List.map_cons, List.count_cons, List.count_cons, eC_ fun a ha => h a (List.mem_cons_of_mem _ ha)]
  congr 1
  by_cases e : a = x
  ·subst e; simp
  ·have : f a ≠ f x := fun z => e (h a List.mem_cons_self z)
   simp [e, this]
theorem oc_ {P W : Nat} {T : List (List Nat)} (g : Gr P W T) {ns ws : Nat → S} {ord : List Nat} (h : ord.Perm (List.range T.length)) (hP : P ≤ 6) (hW : W ≤ 15)
  (hn : ∀ a b, a < T.length → b < T.length → ns a = ns b → a = b) (hw : ∀ a b, a < W → b < W → ws a = ws b → a = b) {ps : List S} {wo : List (S × (Int × Int))} (hps : ps.length ≤ 6) (hwo : wo.length ≤ 15) : NetOk (⟨ps, rowsOf ns ws T ord, wo⟩ : Net S) := by
 have al := jZ_ (ns := ns) (ws := ws) h
 have e : ((rowsOf ns ws T ord).map (·.1)) = ord.map ns := by unfold rowsOf; rw [List.map_map]; rfl
 refine ⟨?_, fun x hx => ?_, ?_, ?_, hps, hwo⟩
 ·show ((rowsOf ns ws T ord).map (·.1)).Nodup
  rw [e]
  unfold List.Nodup
  rw [List.pairwise_map]
  exact List.Pairwise.imp_of_mem (fun {a b} ha hb ne z => ne (hn a b (List.mem_range.mp (h.mem_iff.mp ha)) (List.mem_range.mp (h.mem_iff.mp hb)) z)) (h.nodup_iff.mpr List.nodup_range)
 ·have hx' : x ∈ T.flatten.map ws := al.mem_iff.mp hx
  obtain ⟨w, hw1, rfl⟩ := List.mem_map.mp hx'
  show (((rowsOf ns ws T ord).map (·.2)).flatten).count (ws w) = 2
  rw [al.count_eq, eC_ fun a ha z => hw a w (g.lt a ha) (g.lt w hw1) z]
  exact g.two w (g.lt w hw1)
 ·show (rowsOf ns ws T ord).length ≤ 16
  unfold rowsOf
  have := h.length_eq
  rw [List.length_range] at this
  rw [List.length_map]
  have := g.most
  omega
 ·show (((rowsOf ns ws T ord).map (·.2)).flatten).length ≤ 30
  rw [al.length_eq, List.length_map, g.tot]
  omega
end RimT
namespace RimT
variable {S : Type} [DecidableEq S]
abbrev End (S : Type) := S × Nat
def addE : List (S × List (End S)) → S → End S → List (S × List (End S))
 | [], w, e => [(w, [e])]
 | (k, es) :: r, w, e => if k = w then (k, es ++ [e]) :: r else (k, es) :: addE r w e
theorem gl_ {w : S} {e : End S} : ∀ {a : List (S × List (End S))}, (∀ kv ∈ a, kv.1 ≠ w) → addE a w e = a ++ [(w, [e])]
 | [], _ => rfl
 | (k, es) :: r, h => by
  have : k ≠ w := h (k, es) List.mem_cons_self
  rw [addE, if_neg this, gl_ fun kv hkv => h kv (List.mem_cons_of_mem _ hkv)]
  rfl
theorem cI_ {w : S} {e : End S} : ∀ {a : List (S × List (End S))}, (∃ kv ∈ a, kv.1 = w) → ∃ i es, a[i]? = some (w, es) ∧ (∀ j kv, j < i → a[j]? = some kv → kv.1 ≠ w) ∧ addE a w e = a.set i (w, es ++ [e])
 | [], h => by obtain ⟨kv, hkv, _⟩ := h; cases hkv
 | (k, es) :: r, h => by
  by_cases hk : k = w
  ·subst hk
   exact ⟨0, es, rfl, fun j kv hj => absurd hj (by omega), by rw [addE, if_pos rfl]; rfl⟩
  ·obtain ⟨i, es', h1, h2, h3⟩ := cI_ (w := w) (e := e) (a := r) (by
    obtain ⟨kv, hkv, hw⟩ := h
    rcases List.mem_cons.mp hkv with rfl | hkv
    ·exact absurd hw hk
    ·exact ⟨kv, hkv, hw⟩)
   refine ⟨i + 1, es', h1, fun j kv hj hkv => ?_, by rw [addE, if_neg hk, h3]; rfl⟩
   cases j with
   | zero => cases hkv; exact hk
   | succ j => exact h2 j kv (by omega) hkv
def occRow (p : S) : Nat → List S → List (S × End S)
 | _, [] => []
 | k, w :: ws => (w, (p, k)) :: occRow p (k + 1) ws
def occ (rows : List (S × List S)) : List (S × End S) := (rows.map fun r => occRow r.1 0 r.2).flatten
def endsL (l : List (S × End S)) : List (S × List (End S)) := l.foldl (fun a x => addE a x.1 x.2) []
theorem dS_ (l : List (S × End S)) (x : S × End S) : endsL (l ++ [x]) = addE (endsL l) x.1 x.2 := by
 unfold endsL
 rw [List.foldl_append]
 rfl
theorem hD_ {w : S} {e : End S} {kv : S × List (End S)} : ∀ {a : List (S × List (End S))}, kv ∈ addE a w e → (kv.1 = w ∧ ((∃ es, (w, es) ∈ a ∧ kv.2 = es ++ [e]) ∨ ((∀ x ∈ a, x.1 ≠ w) ∧ kv.2 = [e]))) ∨ kv ∈ a
 | [], h => by
  have := List.mem_singleton.mp h
  subst this
  exact .inl ⟨rfl, .inr ⟨fun x hx => (by cases hx), rfl⟩⟩
 | (k, es) :: r, h => by
  by_cases hk : k = w
  ·subst hk
   rw [addE, if_pos rfl] at h
   rcases List.mem_cons.mp h with h | h
   ·subst h
    exact .inl ⟨rfl, .inl ⟨es, List.mem_cons_self, rfl⟩⟩
   ·exact .inr (List.mem_cons_of_mem _ h)
  ·rw [addE, if_neg hk] at h
   rcases List.mem_cons.mp h with h | h
   ·subst h
    exact .inr List.mem_cons_self
   ·rcases hD_ h with ⟨e1, e2⟩ | h
    ·refine .inl ⟨e1, ?_⟩
     rcases e2 with ⟨es', h1, h2⟩ | ⟨h1, h2⟩
     ·exact .inl ⟨es', List.mem_cons_of_mem _ h1, h2⟩
     ·refine .inr ⟨fun x hx => ?_, h2⟩
      rcases List.mem_cons.mp hx with rfl | hx
      ·exact hk
      ·exact h1 x hx
    ·exact .inr (List.mem_cons_of_mem _ h)
theorem dz_ {w : S} {e : End S} : ∀ {a : List (S × List (End S))}, (addE a w e).map (·.1) = if (∃ kv ∈ a, kv.1 = w) then a.map (·.1) else a.map (·.1) ++ [w]
 | [] => by simp [addE]
 | (k, es) :: r => by
  by_cases hk : k = w
  ·subst hk
   rw [addE, if_pos rfl, if_pos ⟨(k, es), List.mem_cons_self, rfl⟩]
   rfl
  ·rw [addE, if_neg hk, List.map_cons, dz_ (a := r)]
   by_cases hr : ∃ kv ∈ r, kv.1 = w
   ·rw [if_pos hr, if_pos (by obtain ⟨kv, h1, h2⟩ := hr; exact ⟨kv, List.mem_cons_of_mem _ h1, h2⟩)]
    rfl
   ·rw [if_neg hr, if_neg (fun ⟨kv, h1, h2⟩ => by
     rcases List.mem_cons.mp h1 with rfl | h1
     ·exact hk h2
     ·exact hr ⟨kv, h1, h2⟩)]
    rfl
theorem b7_ : ∀ (n : Nat) (l : List (S × End S)), l.length = n → ((endsL l).map (·.1)).Nodup ∧ (∀ kv ∈ endsL l, kv.2 = (l.filter fun x => decide (x.1 = kv.1)).map (·.2)) ∧ (∀ x ∈ l, ∃ kv ∈ endsL l, kv.1 = x.1) ∧ (∀ kv ∈ endsL l, ∃ x ∈ l, x.1 = kv.1)
 | 0, l, h => by
  have := List.eq_nil_of_length_eq_zero h
  subst this
  exact ⟨List.nodup_nil, fun kv hkv => (by cases hkv), fun x hx => (by cases hx), fun kv hkv => (by cases hkv)⟩
 | n + 1, l, h => by
  obtain ⟨m, x, rfl⟩ : ∃ m x, l = m ++ [x] := by
   refine ⟨l.dropLast, l.getLast (fun e => by rw [e] at h; cases h), (List.dropLast_concat_getLast _).symm⟩
  have hm : m.length = n := by simpa using h
  obtain ⟨h1, h2, h3, h4⟩ := b7_ n m hm
  rw [dS_]
  have fe : ∀ w, ((m ++ [x]).filter fun y => decide (y.1 = w)) = (m.filter fun y => decide (y.1 = w)) ++ (if x.1 = w then [x] else []) := fun w => by
   rw [List.filter_append]
   by_cases e : x.1 = w
   ·simp [e]
   ·simp [e]
  refine ⟨?_, fun kv hkv => ?_, fun y hy => ?_, fun kv hkv => ?_⟩
  ·rw [dz_]
   by_cases hc : ∃ kv ∈ endsL m, kv.1 = x.1
   ·rw [if_pos hc]; exact h1
   ·rw [if_neg hc]
    refine List.nodup_append.mpr ⟨h1, by simp, fun a ha b hb e => ?_⟩
    obtain ⟨kv, hkv, rfl⟩ := List.mem_map.mp ha
    exact hc ⟨kv, hkv, by rw [e]; exact List.mem_singleton.mp hb⟩
  ·rw [fe, List.map_append]
   rcases hD_ hkv with ⟨e1, e2⟩ | hkv'
   ·rw [e1, if_pos rfl]
    rcases e2 with ⟨es, h5, h6⟩ | ⟨h5, h6⟩
    ·rw [h6]
     have := h2 _ h5
     simp only at this
     rw [this]
     rfl
    ·rw [h6]
     have : (m.filter fun y => decide (y.1 = x.1)) = [] := by
      refine List.filter_eq_nil_iff.mpr fun y hy z => ?_
      obtain ⟨kv2, h7, h8⟩ := h3 y hy
      exact h5 kv2 h7 (h8.trans (of_decide_eq_true z))
     rw [this]
     rfl
   ·by_cases e : x.1 = kv.1
    ·-- kv was there and stays: its key is another one
     exfalso
     obtain ⟨i, es, g1, g2, g3⟩ := cI_ (w := x.1) (e := x.2) (a := endsL m) ⟨kv, hkv', e.symm⟩
     rw [g3] at hkv
     obtain ⟨j, hj, ej⟩ := List.mem_iff_getElem.mp hkv
     rw [List.length_set] at hj
     have hji : (endsL m)[j]? = some ((endsL m)[j]) := List.getElem?_eq_getElem hj
     have hi : i < (endsL m).length := (List.getElem?_eq_some_iff.mp g1).1
     by_cases hij : i = j
     ·subst hij
      rw [List.getElem_set_self] at ej
      have e9 : kv.2 = es ++ [x.2] := by rw [← ej]
      -- the same key twice in the old list
      obtain ⟨j2, hj2, ej2⟩ := List.mem_iff_getElem.mp hkv'
      have k1 : ((endsL m).map (·.1))[j2]? = ((endsL m).map (·.1))[i]? := by
       rw [List.getElem?_map, List.getElem?_map, List.getElem?_eq_getElem hj2, ej2, g1]
       show some kv.1 = some x.1
       rw [e]
      have := (List.getElem?_inj (by rw [List.length_map]; exact hj2) h1).mp k1
      subst this
      rw [List.getElem?_eq_getElem hj2, ej2] at g1
      have e10 := congrArg Prod.snd (Option.some.inj g1)
      rw [e9] at e10
      have := congrArg List.length e10
      simp at this
     ·rw [List.getElem_set_ne hij] at ej
      have k1 : ((endsL m).map (·.1))[j]? = ((endsL m).map (·.1))[i]? := by
       rw [List.getElem?_map, List.getElem?_map, hji, ej, g1]
       show some kv.1 = some x.1
       rw [e]
      exact hij ((List.getElem?_inj (by rw [List.length_map]; exact hj) h1).mp k1).symm
    ·rw [if_neg e]
     rw [h2 kv hkv']
     simp
  ·by_cases hc : ∃ kv ∈ endsL m, kv.1 = y.1
   ·have hk : y.1 ∈ (addE (endsL m) x.1 x.2).map (·.1) := by
     rw [dz_]
     obtain ⟨kv, g1, g2⟩ := hc
     have : y.1 ∈ (endsL m).map (·.1) := List.mem_map.mpr ⟨kv, g1, g2⟩
     split
     ·exact this
     ·exact List.mem_append_left _ this
    obtain ⟨kv, g1, g2⟩ := List.mem_map.mp hk
    exact ⟨kv, g1, g2⟩
   ·rcases List.mem_append.mp hy with hy | hy
    ·exact absurd (h3 y hy) hc
    ·have e := List.mem_singleton.mp hy
     subst e
     have hk : y.1 ∈ (addE (endsL m) y.1 y.2).map (·.1) := by
      rw [dz_, if_neg hc]
      exact List.mem_append_right _ (List.mem_singleton.mpr rfl)
     obtain ⟨kv, g1, g2⟩ := List.mem_map.mp hk
     exact ⟨kv, g1, g2⟩
  ·rcases hD_ hkv with ⟨e1, _⟩ | hkv'
   ·exact ⟨x, List.mem_append_right _ (List.mem_singleton.mpr rfl), e1.symm⟩
   ·obtain ⟨y, g1, g2⟩ := h4 kv hkv'
    exact ⟨y, List.mem_append_left _ g1, g2⟩
theorem e9_ (p : S) : ∀ (ws : List S) (k : Nat), (occRow p k ws).map (·.1) = ws
 | [], _ => rfl
 | w :: ws, k => by rw [occRow, List.map_cons, e9_ p ws (k + 1)]
theorem gm_ (rows : List (S × List S)) : (occ rows).map (·.1) = (rows.map (·.2)).flatten := by
 unfold occ
 rw [List.map_flatten, List.map_map]
 congr 1
 exact List.map_congr_left fun r _ => e9_ r.1 r.2 0
theorem g6_ {p : S} {x : S × End S} : ∀ {ws : List S} {k : Nat}, x ∈ occRow p k ws → x.2.1 = p ∧ k ≤ x.2.2
 | [], _, h => by cases h
 | w :: ws, k, h => by
  rcases List.mem_cons.mp h with rfl | h
  ·exact ⟨rfl, Nat.le_refl _⟩
  ·have := g6_ h
   exact ⟨this.1, by omega⟩
def endsN (N : Net S) : List (S × List (End S)) := endsL (occ N.rows)
theorem jh_ (N : Net S) : ((endsN N).map (·.1)).Nodup := (b7_ _ _ rfl).1
theorem g7_ (w : S) : ∀ l : List (S × End S), ((l.filter fun x => decide (x.1 = w)).map (·.2)).length = (l.map (·.1)).count w
 | [] => rfl
 | x :: l => by
  have ih := g7_ w l
  rw [List.map_cons, List.count_cons, ← ih]
  by_cases e : x.1 = w
  ·simp [e]
  ·simp [e]
theorem hE_ {N : Net S} (ok : NetOk N) {kv : S × List (End S)} (h : kv ∈ endsN N) : ∃ a b, kv.2 = [a, b] := by
 obtain ⟨_, h2, _, h4⟩ := b7_ _ (occ N.rows) rfl
 have hl : kv.2.length = 2 := by
  rw [h2 kv h, g7_, gm_]
  obtain ⟨x, x1, x2⟩ := h4 kv h
  refine ok.two kv.1 ?_
  show kv.1 ∈ (N.rows.map (·.2)).flatten
  rw [← gm_, ← x2]
  exact List.mem_map.mpr ⟨x, x1, rfl⟩
 match hk : kv.2, hl with
 | [a, b], _ => exact ⟨a, b, rfl⟩
theorem od_ {N : Net S} {kv : S × List (End S)} (h : kv ∈ endsN N) {a : End S} (ha : a ∈ kv.2) : (kv.1, a) ∈ occ N.rows := by
 obtain ⟨_, h2, _, _⟩ := b7_ _ (occ N.rows) rfl
 rw [h2 kv h] at ha
 obtain ⟨x, x1, rfl⟩ := List.mem_map.mp ha
 obtain ⟨x2, x3⟩ := List.mem_filter.mp x1
 have e : x.1 = kv.1 := of_decide_eq_true x3
 rw [← e]
 exact x2
end RimT
namespace L2
open PySem PyProof.Rows PySem.W
structure Lto (lt : Nat → Nat → Bool) (N : Nat) : Prop where
 as : ∀ x y, lt x y = true → lt y x = false
 tr : ∀ x y z, lt y x = false → lt z y = false → lt z x = false
 tri : ∀ x y, x < N → y < N → x ≠ y → lt x y = false → lt y x = true
def So (lt : Nat → Nat → Bool) (p : Array Nat) (b : Nat) : Prop := ∀ i j, i < j → j < b → lt (p.getD j 0) (p.getD i 0) = false
def Fa (lt : Nat → Nat → Bool) (p : Array Nat) (b : Nat) : Prop := ∀ i j, i < j → j < b → lt (p.getD i 0) (p.getD j 0) = false
section
variable {lt : Nat → Nat → Bool} {N : Nat}
theorem Pm.size {p : Array Nat} (h : Pm N p) : p.size = N := by
 have := (Array.perm_iff_toList_perm.mp h).length_eq
 simpa using this
theorem Pm.inj {p : Array Nat} (h : Pm N p) {i j : Nat} (hi : i < N) (hj : j < N) (hij : i ≠ j) : p.getD i 0 ≠ p.getD j 0 := by
 have nd : p.toList.Nodup := (Array.perm_iff_toList_perm.mp h).nodup_iff.mpr (by simpa using List.nodup_range)
 have sz := h.size
 have ei : p.getD i 0 = p.toList[i]'(by simp; omega) := by simp [Array.getD, sz, hi]
 have ej : p.getD j 0 = p.toList[j]'(by simp; omega) := by simp [Array.getD, sz, hj]
 rw [ei, ej]
 intro e
 rcases Nat.lt_or_gt_of_ne hij with c | c
 ·exact List.pairwise_iff_getElem.mp nd i j (by simp; omega) (by simp; omega) c e
 ·exact List.pairwise_iff_getElem.mp nd j i (by simp; omega) (by simp; omega) c e.symm
theorem So.more {p : Array Nat} {n : Nat} (O : Lto lt N) (h : So lt p n) (h1 : 1 ≤ n) (e : lt (p.getD n 0) (p.getD (n - 1) 0) = false) : So lt p (n + 1) := fun i j hij hj => by
 by_cases c : j < n
 ·exact h i j hij c
 ·have : j = n := by omega
  subst this
  by_cases d : i = j - 1
  ·subst d; exact e
  ·exact O.tr _ _ _ (h i (j - 1) (by omega) (by omega)) e
theorem Fa.more {p : Array Nat} {n : Nat} (O : Lto lt N) (h : Fa lt p n) (h1 : 1 ≤ n) (e : lt (p.getD (n - 1) 0) (p.getD n 0) = false) : Fa lt p (n + 1) := fun i j hij hj => by
 by_cases c : j < n
 ·exact h i j hij c
 ·have : j = n := by omega
  subst this
  by_cases d : i = j - 1
  ·subst d; exact e
  ·exact O.tr _ _ _ e (h i (j - 1) (by omega) (by omega))
theorem mL_ {p : Array Nat} {n : Nat} (hn : n ≤ p.size) {k : Nat} (hk : k < n) : (kas_rev p 0 n).getD k 0 = p.getD (n - 1 - k) 0 := by
 have q := getElem?_mirror_all (xs := p) (i := 0) (j := n) hn k
 rw [if_pos ⟨Nat.zero_le _, hk⟩] at q
 show (mirror p 0 n ((n - 0) / 2)).getD k 0 = _
 rw [Array.getD_eq_getD_getElem?, Array.getD_eq_getD_getElem?, q]
 congr 2
 omega
theorem Fa.rev {p : Array Nat} {n : Nat} (hn : n ≤ p.size) (h : Fa lt p n) : So lt (kas_rev p 0 n) n := fun i j hij hj => by
 rw [mL_ hn hj, mL_ hn (by omega)]
 exact h _ _ (by omega) (by omega)
theorem So.list {z : Array Nat} (hp : Pm N z) (hs : So lt z N) : z.toList.Pairwise fun i j => lt j i = false := by
 rw [List.pairwise_iff_getElem]
 intro i j hi hj hij
 have sz := hp.size
 have hi' : i < z.size := by simpa using hi
 have hj' : j < z.size := by simpa using hj
 have q := hs i j hij (by omega)
 have ei : z.getD i 0 = z.toList[i] := by simp [Array.getD, hi']
 have ej : z.getD j 0 = z.toList[j] := by simp [Array.getD, hj']
 rw [ei, ej] at q
 exact q
end
end L2
namespace L2
open PySem PySem.Spec PyProof.Rows PySem.W
def sLe (a b : Str) : Prop := ¬ b.cps.toList < a.cps.toList
theorem sLe.trans {a b c : Str} (h : sLe a b) (h2 : sLe b c) : sLe a c := List.not_lt.mpr (List.le_trans (List.not_lt.mp h) (List.not_lt.mp h2))
end L2
namespace PySem
open Sem (wp)
theorem ji_ : typeLookup (.type "list") "keys" = pure none := am_miss_of_fast (by decide +kernel)
theorem hF_ {prog : Program} {w : World} {A : Around} {E : Value → Shared → Prop} {s : Shared} {a : Addr} {o : Obj} {xs : Array Value} {k : Nat} {name : Str} {Q : Option Value → Shared → Prop}
  (hx : s.heap.get? a = some o) (hc : o.cls = .type "list") (hdat : o.data = .seq xs k) (hd : o.dict = none) (hmiss : typeLookup (.type "list") name = pure none) (hname : (["__module__", "__name__", "__qualname__", "__doc__", "__annotations__"] : List Str).contains name = false) (hA : A.handled = none)
  (h : ∀ h' tk, (∀ b ob, s.heap.get? b = some ob → h'.get? b = some ob) → Q none { s with heap := h', toks := tk }) (hsz : name.length + 100 ≤ sizeLine := by size_fits) :
  wpAny (model prog w) A (getAttr? (.ref a) name) Q E s := by
 obtain ⟨c, dct, dat, sl⟩ := o
 simp only at hc hdat hd
 subst hc hdat hd
 obtain ⟨hp, g, d, tk, os⟩ := s
 have hT : ∀ tk', (⟨hp, g, d, tk', os⟩ : Shared).TypeIs (.ref a) "list" := fun _ => ⟨_, hx, rfl⟩
 have f1 := sub_AttributeError
 have f3 := F.slot_list_getattribute.lookup
 have f4 := F.slot_list_getattribute.bind (.ref a)
 have f5 := am_list_getattr_none
 unfold getAttr? getAttrBy? getAttrBy
 repeat (any_goals (first | assumption | exact hT _ | ((with_reducible show wpAny _ _ (call (Value.builtin "list.__getattribute__") _ _) _ _ _); refine call_meets F.slot_list_getattribute (hT _) am_entry_list_getattribute (F.args_list_getattribute_2 _ _) (meets_getattribute_miss_list a xs k sl name _ hmiss hname hsz) ⟨hx, hA, fun h' tk' e hx' => ?_⟩) | wp_step))
 obtain ⟨t', u', he⟩ := hx'.there
 show wpAny _ _ (getattributeRaised _ _ _ _ _ _ _) _ _ _
 unfold getattributeRaised
 repeat (any_goals (first | assumption | wp_step))
 exact h _ _ hx'.keeps
namespace F
theorem rim_entry_dict_update_loop : entryFor table "dict.update.loop" = some Builtin.«dict.update.loop» := entryFor_of_tree (by kernel_rfl)
theorem rim_plain_dict_update_loop : plainId "dict.update.loop" = true := by decide +kernel
end F
section
variable {prog : Program} {w : World} {K : Type} [DecidableEq K] {knd : KeyKind prog w K} {A : Around} {R : Result → Shared → Prop}
theorem dA_ {d it p : Addr} {its : Array Value} {h0 : Heap} (hh : A.handled = none) (hdi : d ≠ it) (hp : h0.IsList p its) (hpi : p ≠ it) (hpd : p ≠ d) :
  ∀ (ps : List (K × Value)) (i : Nat) (j : Int) (D : List (K × Value)) (s : Shared), its.size = i + ps.length → D.length + ps.length ≤ 1000 → s.heap.IsListIter it p i → s.heap.DictOf knd d D →
   (∀ b o, b ≠ it → b ≠ d → h0.get? b = some o → s.heap.get? b = some o) →
   (∀ m q, ps[m]? = some q → ∃ (a : Addr) (kv : Value) (o : Obj) (n : Nat), its[i + m]? = some (.ref a) ∧ a ≠ it ∧ a ≠ d ∧ h0.get? a = some o ∧ o.cls = .type "tuple" ∧ o.data = .seq #[kv, q.2] n ∧ knd.is q.1 kv = true) →
   (∀ h' tk, (∀ b o, b ≠ it → b ≠ d → h0.get? b = some o → h'.get? b = some o) → h'.DictOf knd d (merged D ps) → R (.ok (.ret .none)) { s with heap := h', toks := tk }) →
   codeAny (model prog w) A (.builtin "dict.update.loop" ⟨[.ref d, .ref it, rawInt j, .none], []⟩) R s
 | [], i, j, D, s, hz, hl, hi, hD, hk, hit, hR => by
  obtain ⟨op, hop, hpr⟩ := id hp
  have hp' : s.heap.IsList p its := ⟨op, hk p op hpi hpd hop, hpr⟩
  refine codeAny_builtin F.rim_entry_dict_update_loop ?_
  rw [Around.under_plainId F.rim_plain_dict_update_loop _]
  show wpAny _ A.in1 (pyNext (.ref it) >>= _) _ _ s
  refine wpAny_bind (wpAny_pyNext_list_end hh hi hp' (Array.getElem?_eq_none (by simp at hz; omega)) fun h' eb => ?_)
  show wpAny _ A.in1 (Builtin.Dict.addKeywords d [] >>= _) _ _ _
  exact wpAny_bind (wpAny_pure (wpAny_pure (hR h' s.toks (fun b o h1 h2 e => eb b o h1 (hk b o h1 h2 e)) (hD.extBut eb hdi))))
 | q :: ps, i, j, D, s, hz, hl, hi, hD, hk, hit, hR => by
  obtain ⟨op, hop, hpr⟩ := id hp
  have hp' : s.heap.IsList p its := ⟨op, hk p op hpi hpd hop, hpr⟩
  obtain ⟨a, kv, o, n, e1, a1, a2, ho, hc, hd, kis⟩ := hit 0 q rfl
  refine codeAny_builtin F.rim_entry_dict_update_loop ?_
  rw [Around.under_plainId F.rim_plain_dict_update_loop _]
  show wpAny _ A.in1 (pyNext (.ref it) >>= _) _ _ s
  refine wpAny_bind (wpAny_pyNext_list_item hi hp' e1 fun h1 hi1 sb => ?_)
  have ho1 : h1.get? a = some o := (sb.2 a a1).trans (hk a o a1 a2 ho)
  have hT : ({ s with heap := h1 } : Shared).TypeIs (.ref a) "tuple" := ⟨_, ho1, hc⟩
  show wpAny _ A.in1 (holding [Value.ref a] _ >>= _) _ _ _
  refine wpAny_bind (wpAny_holding ?_)
  refine wpAny_bind ?_
  refine wpAny_tryCatch ?_
  unfold Builtin.Dict.pairItems
  refine wpAny_bind (wpAny_typeOf hT ?_)
  rw [if_pos (by decide)]
  refine wpAny_bind (wpAny_seqItems ho1 hd ?_)
  refine wpAny_pure ?_
  show wpAny _ A.in1 (holding [kv, q.2] (dictSet d kv q.2)) _ _ _
  refine wpAny_holding ?_
  have hD1 : ({ s with heap := h1 } : Shared).heap.DictOf knd d D := hD.sameBut sb hdi
  refine wpAny_dictSet_pairs kis hD1 (fun h2 hD2 sb2 => ?_) (by simp at hl; rw [sizeLine_eq]; omega)
  refine wpAny_pure ⟨plainId_quiet F.rim_plain_dict_update_loop _, ?_⟩
  have sl := stored_length_le D q.1 q.2
  refine dA_ hh hdi hp hpi hpd ps (i + 1) (j + 1) (stored D q.1 q.2) { s with heap := h2, toks := s.toks + 1 } (by simp at hz; omega) (by simp at hl; omega) ?_ hD2 (fun b o h1' h2' e => ?_) (fun m r e => ?_) fun h' tk k3 hD3 => ?_
  ·obtain ⟨oi, hoi, hir⟩ := hi1
   exact ⟨oi, (sb2.2 it (Ne.symm hdi)).trans hoi, hir⟩
  ·exact (sb2.2 b h2').trans ((sb.2 b h1').trans (hk b o h1' h2' e))
  ·obtain ⟨a', kv', o', n', z1, z2⟩ := hit (m + 1) r e
   exact ⟨a', kv', o', n', by rw [show i + 1 + m = i + (m + 1) by omega]; exact z1, z2⟩
  ·exact hR h' tk k3 hD3
end
end PySem
namespace L2
open PySem PySem.Spec PyProof.Rows PySem.W
section
variable {X : Cx} {pins : List (Addr × Obj)} {σ : St} {H : Hp} {s : Shared}
theorem j0_ (I : Inv X pins σ H s) : ∀ {kvs : List (Key × V)} {ys : List V} {its : List Value}, Vals ys its → ys.length = kvs.length → (∀ (i : Nat) (q : Key × V), kvs[i]? = some q → ∃ a, ys[i]? = some (.ref a) ∧ H a = some (.tup [kV q.1, q.2])) →
  ∃ ps : List (Key × Value), KV kvs ps ∧ ps.length = its.length ∧ ∀ (m : Nat) (q : Key × Value), ps[m]? = some q → ∃ (a : Addr) (kv : Value) (o : Obj) (n : Nat), its[m]? = some (.ref a) ∧ H a ≠ none ∧ s.heap.get? a = some o ∧ o.cls = .type "tuple" ∧ o.data = .seq #[kv, q.2] n ∧ (mixKind X.prog X.w).is q.1 kv = true
 | [], [], _, .nil, _, _ => ⟨[], .nil, rfl, fun m q e => by simp at e⟩
 | [], _ :: _, _, _, e, _ => nomatch e
 | _ :: _, [], _, _, e, _ => nomatch e
 | kv :: kvs, y :: ys, _, .cons r1 r2, e, h => by
  obtain ⟨ps, rel, hl, hp⟩ := j0_ I r2 (by simpa using e) fun i q hq => h (i + 1) q hq
  obtain ⟨a, ea, ha⟩ := h 0 kv rfl
  cases ea
  cases r1
  obtain ⟨zs, rz, ⟨ob, ho, hcl, n, hd⟩, _⟩ := I.tuple (.inl (.inl ha))
  obtain ⟨u1, u2, rfl, ru1, ru2⟩ := vals2 rz
  refine ⟨(kv.1, u2) :: ps, .cons ⟨rfl, ru2⟩ rel, by simp [hl], fun m q hq => ?_⟩
  cases m with
  | zero =>
   cases hq
   exact ⟨a, u1, ob, n, rfl, (by rw [ha]; exact Option.some_ne_none _), ho, hcl, hd, kV_is ru1⟩
  | succ m => exact hp m q hq
def rDictP : List V → Hp → VK → Prop := fun vs H Q => ∃ (p : Addr) (ys : List V) (kvs : List (Key × V)), vs = [.ref p] ∧ H p = some (.lst ys) ∧ ys.length = kvs.length ∧ kvs.length ≤ 900 ∧ (∀ (i : Nat) (q : Key × V), kvs[i]? = some q → ∃ a, ys[i]? = some (.ref a) ∧ H a = some (.tup [kV q.1, q.2])) ∧
 ∀ l, H l = none → Q (.ref l) (upd H l (.dK (mergeK [] kvs)))
theorem iv_ {K : Type} [DecidableEq K] : ∀ (ps D : List (K × Value)), (merged D ps).length ≤ D.length + ps.length
 | [], D => Nat.le_refl _
 | q :: ps, D => by
  have a := iv_ ps (stored D q.1 q.2)
  have b := stored_length_le D q.1 q.2
  show (merged (stored D q.1 q.2) ps).length ≤ _
  rw [List.length_cons]
  omega
theorem kz_ (hc : X.calm = true) : CallR X (.type "dict") rDictP := by
 intro pins s σ H xs us Q I r h
 obtain ⟨p, ys, kvs, rfl, hp, hl, hz, hk, q⟩ := h
 obtain ⟨u, rfl, e⟩ := vals1 r
 cases e
 obtain ⟨_, its, c, rv, hop⟩ := (show ObjOk X.prog X.w H s.heap p (.lst ys) from I.hok p _ hp)
 obtain ⟨ps, rel, pl, hit⟩ := j0_ I rv hl hk
 have hh := I.ok.hd hc
 have hlt : ∀ {b : Addr} {o : Obj}, s.heap.get? b = some o → b < s.heap.objs.size := fun e => Heap.lt_size e
 refine callType_codes (Q₁ := fun obj s₁ => obj = .ref s.heap.objs.size ∧ s₁ = { s with heap := s.heap.push { cls := .type "dict", data := .dict #[] } }) F.kt_called_dict (F.kt_typeCall_dict_1 _) F.entry_dict_init (kt_code_dict_new _ ⟨rfl, rfl⟩) ?_
 rintro obj s₁ ⟨rfl, rfl⟩
 have hnew : (s.heap.push { cls := .type "dict", data := .dict #[] }).DictOf (mixKind X.prog X.w) s.heap.objs.size [] := Heap.DictOf.new s.heap
 refine ⟨hnew.typeIs, F.args_dict_init_2 _ _, ?_⟩
 unfold Builtin.«dict.__init__»
 refine wpAny_bind ?_
 unfold Builtin.Dict.selfAndRest
 refine wpAny_bind (wpAny_notOrdered_dict hnew.typeIs ?_)
 show wpAny _ _ (pure (s.heap.objs.size, [Value.ref p])) _ _ _
 refine wpAny_pure ?_
 show wpAny _ _ (Builtin.Dict.updateFrom "dict.__init__" s.heap.objs.size (.ref p) [] .none) _ _ _
 unfold Builtin.Dict.updateFrom
 have hop1 : (s.heap.push { cls := .type "dict", data := .dict #[] }).get? p = some (seqObj "list" its.toArray c) := Heap.get?_push_of_some _ hop
 have hT : ({ s with heap := s.heap.push { cls := .type "dict", data := .dict #[] } } : Shared).TypeIs (.ref p) "list" := ⟨_, hop1, rfl⟩
 refine wpAny_bind (wpAny_typeOf hT ?_)
 rw [if_pos (by decide)]
 refine wpAny_bind (hF_ hop1 rfl rfl rfl ji_ (by decide +kernel) hh fun h1 tk k1 => ?_)
 rw [if_pos Option.isNone_none]
 refine wpAny_bind (wpAny_rule ?_)
 have hop2 := k1 _ _ hop1
 have dsz : s.heap.objs.size < h1.objs.size := by
  obtain ⟨od, _, _, hod, _⟩ := hnew
  exact Heap.lt_size (k1 _ _ hod)
 refine wpAny_bind (wpAny_pyIter_list (items := its.toArray) ⟨_, hop2, rfl, c, rfl⟩ ?_)
 refine wpAny_pure ⟨plainId_quiet F.rim_plain_dict_update_loop _, ?_⟩
 have below : ∀ {b : Addr} {o : Obj}, s.heap.get? b = some o → b ≠ h1.objs.size ∧ b ≠ s.heap.objs.size := fun e => ⟨Nat.ne_of_lt (Nat.lt_trans (hlt e) dsz), Nat.ne_of_lt (hlt e)⟩
 have rl : kvs.length = ps.length := rel.length
 refine dA_ (A := X.A.in1) (knd := mixKind X.prog X.w) (its := its.toArray) (h0 := s.heap) (p := p) hh (Nat.ne_of_lt dsz) ⟨_, hop, rfl, c, rfl⟩ (below hop).1 (below hop).2 ps 0 0 [] _ (by simp; omega) (by simp; omega) ?_ ?_ (fun b o b1 b2 e => ?_) (fun m q hq => ?_) fun h' tk' k3 hD3 => ?_
 ·exact ⟨_, Heap.get?_push_size h1 rfl, rfl, rfl⟩
 ·obtain ⟨od, es, ep, hod, dr⟩ := hnew
  exact ⟨od, es, ep, Heap.get?_push_of_some _ (k1 _ _ hod), dr⟩
 ·exact Heap.get?_push_of_some _ (k1 _ _ (Heap.get?_push_of_some _ e))
 ·obtain ⟨a, kv, o, n, e1, _, ho, z⟩ := hit m q hq
  exact ⟨a, kv, o, n, by simpa using e1, (below ho).1, (below ho).2, ho, z⟩
 ·have rm : KV (mergeK [] kvs) (merged [] ps) := KV.merge rel .nil
  have ml := iv_ ps []
  have mz : (mergeK [] kvs).length ≤ sizeLine := by
   rw [show (mergeK [] kvs).length = (merged [] ps).length from rm.length]
   exact Nat.le_of_lt (small1000 (by simp at ml; omega))
  exact ⟨rfl, .ref _, _, I.laid (a := s.heap.objs.size) (o := .dK (mergeK [] kvs)) (t' := tk') (fun b o e => k3 b o (below e).1 (below e).2 e) (Nat.le_refl _) (lc_ mz (beq_eq_false_iff_ne.mpr (Ne.symm (Nat.ne_of_lt I.big))) rm hD3), rfl, q _ (I.hok.fresh (Nat.le_refl _))⟩
end
end L2
namespace L2
open PySem PySem.Spec PyProof.Rows PySem.W
def mergedH (D ps : List (List Key × Addr × Value)) : List (List Key × Addr × Value) := ps.foldl (fun acc q => storedH acc q.1 q.2.1 q.2.2) D
section
variable {prog : Program} {w : World} {A : Around} {R : Result → Shared → Prop}
end
def mergeT (kvs more : List (List Key × V)) : List (List Key × V) := more.foldl (fun acc kv => putK acc kv.1 kv.2) kvs
theorem KT.merge {H : Hp} : ∀ {more : List (List Key × V)} {rs : List (List Key × Addr × Value)} {kvs : List (List Key × V)} {xs : List (List Key × Addr × Value)}, KT H more rs → KT H kvs xs → KT H (mergeT kvs more) (mergedH xs rs) := by
 intro more rs kvs xs r
 unfold KT at r
 induction r generalizing kvs xs with
 | nil => intro q; exact q
 | @cons p q ps qs h t ih =>
  intro r0
  have e := KT.put r0 p.1 h.2.1 h.2.2
  refine ih (kvs := putK kvs p.1 p.2) (xs := storedH xs q.1 q.2.1 q.2.2) ?_
  rw [← h.1]
  exact e
section
variable {X : Cx} {pins : List (Addr × Obj)} {σ : St} {H : Hp} {s : Shared}
def PairsT (H : Hp) (p : Addr) (kvs : List (List Key × V)) : Prop := ∃ ys, H p = some (.lst ys) ∧ ys.length = kvs.length ∧ ∀ (i : Nat) (q : List Key × V), kvs[i]? = some q → ∃ a b, ys[i]? = some (.ref a) ∧ H a = some (.tup [.ref b, q.2]) ∧ H b = some (.tup (q.1.map kV))
def rUpdT : V → List V → Hp → VK → Prop := fun x vs H Q => ∃ (a p : Addr) (kvs0 kvs : List (List Key × V)), x = .ref a ∧ vs = [.ref p] ∧ H a = some (.dT kvs0) ∧ PairsT H p kvs ∧ kvs0.length + kvs.length ≤ 900 ∧ Q .non (upd H a (.dT (mergeT kvs0 kvs)))
end
end L2
namespace L2
open PySem PySem.Spec PyProof.Rows PySem.W
variable {X : Cx}
def rIndexS : V → List V → Hp → VK → Prop := fun x vs H Q => ∃ (l : Addr) (xs : List Str) (t : Str) (j : Nat), x = .ref l ∧ vs = [.str t] ∧ H l = some (.lst (xs.map V.str)) ∧ xs.length ≤ 1000 ∧ xs[j]? = some t ∧ (∀ m, m < j → xs[m]? ≠ some t) ∧ Q (.int j) H
theorem j1_ : MtM X "list.index" rIndexS := by
 intro pins s σ H x vs v us Q I rx rv h
 obtain ⟨l, xs, t, j, rfl, rfl, hH, hz, hj, hno, q⟩ := h
 cases rx
 obtain ⟨u, rfl, ru⟩ := rv.one
 obtain ⟨z, its, n, r, hl, e⟩ := I.lstM hH
 have hl' : its.length = xs.length := by rw [← hl, List.length_map]
 have jl : j < xs.length := (List.getElem?_eq_some_iff.mp hj).1
 have ji : j < its.toArray.size := by rw [List.size_toArray]; omega
 have fl : (xs.map V.str).all flatV = true := by rw [List.all_map]; exact List.all_eq_true.mpr fun _ _ => rfl
 have at_ : ∀ m (hm : m < its.toArray.size), eqU (.str t) its.toArray[m] = decide (xs[m]? = some t) := fun m hm => by
  have hm' : m < xs.length := by rw [List.size_toArray] at hm; omega
  obtain ⟨w', hw, rw'⟩ := r.get (i := m) (x := .str xs[m]) (by rw [List.getElem?_map, List.getElem?_eq_getElem hm']; rfl)
  have ew : its.toArray[m] = w' := by
   rw [List.getElem?_eq_getElem (by rw [List.size_toArray] at hm; exact hm)] at hw
   simpa using Option.some.inj hw
  rw [ew, mC_ rw' rfl, List.getElem?_eq_getElem hm']
  show decide (xs[m] = t) = _
  exact decide_eq_decide.mpr ⟨fun z => congrArg some z, fun z => Option.some.inj z⟩
 refine call_meets F.slot_list_index ⟨_, e, rfl⟩ F.entry_list_index (F.args_list_index_2 _ _)
  (SeqAt.list_indexAt l its.toArray n none #[] u (eqU (.str t)) j ji (by omega) (by rw [at_ j ji]; exact decide_eq_true hj) fun m hm hlt => by rw [at_ m hm]; exact decide_eq_false (hno m hlt)) ⟨e, fun y hy => jM_ ru rfl r fl y (by simpa using hy), ?_⟩
 exact ⟨.int j, H, I.tok _, ⟨_, rfl⟩, q⟩
end L2
namespace L2
open PySem PySem.Spec PyProof.Rows PySem.W
def tSeqB (t u : TS) : TS := fun D σ H => ∀ kk : St → Hp → Prop, (∀ σ' H', u D σ' H' → kk σ' H') → t { D with nx := kk } σ H
theorem an_ {X : Cx} {st : Stmt} {rest : List Stmt} {t u : TS} (h1 : PS X st t) (h2 : PSs X rest u) : PSs X (st :: rest) (tSeqB t u) := fun pins s σ H D I h => ad_ h1 h2 pins s σ H D I (h (u D) fun _ _ q => q)
theorem nl_ {t u : TS} {D : Ends} {σ : St} {H : Hp} (h : ∀ kk : St → Hp → Prop, (∀ σ' H', u D σ' H' → kk σ' H') → t { D with nx := kk } σ H) : tSeqB t u D σ H := h
theorem oe_ {kk u : St → Hp → Prop} (h : ∀ σ' H', u σ' H' → kk σ' H') {σ : St} {H : Hp} (q : u σ H) : kk σ H := h _ _ q
theorem box_g {A G : Prop} (h : A → G) (a : A) : G := h a
theorem mM_ {CX : CXT} {P : Program} {w : World} {K : PySem.W.Frag} {mg : Str → Option Value} {base : Heap} {N : List Str} {q : Str} {sc : Scope} {f : Addr} {cd : Value} {A : Around} {o : List Env} {s : Shared} {H : Hp} {E : XK} : (cxOf CX P w K mg base N q sc f cd A o s H E).K = K := rfl
abbrev SHP := St → Hp → Prop
theorem iw_ {lo : Int} {n : Nat} {g : TG} {tb : TS} {nx bk ct : SHP} {rt : VK} {σ : St} {H : Hp} (Pv : Nat → St → Hp → Prop) (h0 : Pv 0 σ H)
  (hs : ∀ (i : Nat) σ H, i < n → ∀ (kk kb : SHP), (∀ σ' H', Pv (i + 1) σ' H' → kk σ' H') → (∀ σ' H', nx σ' H' → kb σ' H') → ∀ G : Prop, ((g (.int (lo + i)) σ H fun σ2 H2 => tb ⟨kk, rt, kb, kk⟩ σ2 H2) → G) → Pv i σ H → G) (hd : ∀ σ H, Pv n σ H → nx σ H) : ForGo (Itr lo n) g tb ⟨nx, rt, bk, ct⟩ σ H :=
 bK_ Pv h0 (fun i σ H hi p => hs i σ H hi _ _ (fun _ _ q => q) (fun _ _ q => q) _ id p) hd
theorem dT_ {K : PySem.W.Frag} {a : Addr} {xs : List V} {g : TG} {tb : TS} {nx bk ct : SHP} {rt : VK} {σ : St} {H : Hp} (Pv : Nat → St → Hp → Prop) (h0 : Pv 0 σ H) (hl : ∀ i σ H, i ≤ xs.length → Pv i σ H → SqL K H a xs)
  (hs : ∀ (i : Nat) x σ H, xs[i]? = some x → ∀ (kk kb : SHP), (∀ σ' H', Pv (i + 1) σ' H' → kk σ' H') → (∀ σ' H', nx σ' H' → kb σ' H') → ∀ G : Prop, ((g x σ H fun σ2 H2 => tb ⟨kk, rt, kb, kk⟩ σ2 H2) → G) → Pv i σ H → G) (hd : ∀ σ H, Pv xs.length σ H → nx σ H) : ForGo (Itl K a) g tb ⟨nx, rt, bk, ct⟩ σ H :=
 i9_ Pv h0 hl (fun i x σ H hx p => hs i x σ H hx _ _ (fun _ _ q => q) (fun _ _ q => q) _ id p) hd
end L2
namespace L2
open PySem PySem.Spec PyProof.Rows PySem.W
def Idi (d : Addr) (ob : Obj) (kvs : List (Key × V)) : It :=
 ⟨fun i H => H d = some (.frz ob (.dK kvs)) ∧ i < kvs.length, fun i H x H' => ∃ T k v, x = .ref T ∧ H T = none ∧ kvs[i]? = some (k, v) ∧ H' = upd H T (.tup [kV k, v]), fun i H => H d = some (.frz ob (.dK kvs)) ∧ kvs.length ≤ i⟩
theorem kA_ {P : Program} {w : World} {K : PySem.W.Frag} {elts : List Expr} {kt : Nat} {tpos : Pos} {d it : Addr} {ob : Obj} {kvs : List (Key × V)} {es0 : Array DictEntry} {ep : Nat} (hob : ob.data = .dict es0 ep) :
  Turn P w K (.Tuple elts kt tpos) (Idi d ob kvs) [it] it (fun i h => ∃ ok ov, IsItemIter h it d i kvs.length ep ok ov) where
 mem := by simp
 obj := fun i h st b hb => by
  have e : b = it := by simpa using hb
  subst e
  obtain ⟨ok, ov, e⟩ := st
  exact ⟨_, e, fun v z => by cases (show Data.fields _ = Data.cell v from z)⟩
 keep := fun i h h' st k => let ⟨ok, ov, e⟩ := st; ⟨ok, ov, k it (by simp) _ e⟩
 item := by
  intro X hP hw hK hc i pins s σ H E I hf st hg
  subst hP hw hK
  obtain ⟨e, hi⟩ := hg
  obtain ⟨vs, rel, da⟩ := lm_ I.hok e hob
  have hl : kvs.length = vs.length := rel.length
  have hx : vs[i]? = some (vs[i]'(by omega)) := List.getElem?_eq_getElem _
  have hk : kvs[i]? = some (kvs[i]) := List.getElem?_eq_getElem _
  obtain ⟨e1, e2⟩ := g5_ rel hk hx
  obtain ⟨ok, ov, st⟩ := st
  rw [hl] at st
  refine wpAny_pyNext_items_item st da (k := (vs[i]'(by omega)).1) (v := (vs[i]'(by omega)).2) hx fun key h' kis g1 g3 g4 g5 => ?_
  refine ⟨_, rfl, wpAny_letOwnedTupleGo_items (s := { s with heap := h' }) g1 fun h'' k1 k2 => ?_⟩
  have rk : RelV (kV (kvs[i]).1) key := by
   rw [e1]
   rcases aX_ kis with ⟨j, t, ek, ev⟩ | ⟨y, t, ek, ev⟩
   ·rw [ek]; exact ⟨t, ev⟩
   ·rw [ek]; exact ⟨t, ev⟩
  have lt : it < s.heap.objs.size := Heap.lt_size st
  have hT : H s.heap.objs.size = none := I.hok.fresh (Nat.le_refl _)
  have I1 : Inv X pins σ (upd H s.heap.objs.size (.tup [kV (kvs[i]).1, (kvs[i]).2])) { s with heap := s.heap.push { cls := .type "tuple", data := .seq #[key, (vs[i]'(by omega)).2] } } :=
   I.laid (t' := s.toks) (fun b u e => Heap.get?_push_of_some _ e) (Nat.le_refl _) ⟨by show 2 ≤ sizeLine; decide, [key, (vs[i]'(by omega)).2], .cons rk (.cons e2 .nil), ⟨_, Heap.get?_push_size _ rfl, rfl, _, rfl⟩⟩
  have f1 : ∀ b ∈ [it], FpOk X pins (upd H s.heap.objs.size (.tup [kV (kvs[i]).1, (kvs[i]).2])) b := fun b hb => by
   have e : b = it := List.mem_singleton.mp hb
   exact ⟨by rw [af_ (e ▸ Nat.ne_of_lt lt)]; exact (hf b hb).1, (hf b hb).2⟩
  have I2 : Inv X pins σ (upd H s.heap.objs.size (.tup [kV (kvs[i]).1, (kvs[i]).2])) { s with heap := h'' } := by
   refine Inv.turnedL (s := { s with heap := s.heap.push { cls := .type "tuple", data := .seq #[key, (vs[i]'(by omega)).2] } }) (ch := [it]) (t' := s.toks) I1 (fun b o hb q => ?_) f1
   simp only [List.mem_singleton] at hb
   refine (k2.2 b hb).trans ?_
   by_cases hbT : b = s.heap.objs.size
   ·subst hbT
    have e' : (s.heap.push { cls := .type "tuple", data := .seq #[key, (vs[i]'(by omega)).2] }).get? s.heap.objs.size = some o := q
    rw [Heap.get?_push_size _ rfl] at e'
    cases e'
    exact g3
   ·have hb2 : s.heap.get? b = some o := by
     have e' : (s.heap.push { cls := .type "tuple", data := .seq #[key, (vs[i]'(by omega)).2] }).get? b = some o := q
     exact (Heap.get?_push_ne _ _ _ hbT).symm.trans e'
    exact g5 b o hb hb2
  refine ⟨.ref s.heap.objs.size, _, I2, rfl, ⟨_, _, _, rfl, hT, hk, rfl⟩, ?_, fun b hb => (f1 b hb).1⟩
  rw [hl]
  exact ⟨_, _, k1⟩
 done := by
  intro X hP hw hK hc i pins s σ H E I hf st hg
  subst hP hw hK
  obtain ⟨e, hi⟩ := hg
  obtain ⟨vs, rel, da⟩ := lm_ I.hok e hob
  have hl : kvs.length = vs.length := rel.length
  obtain ⟨f0, f1, f2, f3, f4, f5⟩ := hf it (by simp)
  obtain ⟨ok, ov, st⟩ := st
  rw [hl] at st
  exact wpAny_pyNext_items_end (I.ok.hd hc) st da (List.getElem?_eq_none (by omega)) fun h' eb => ⟨rfl, I.turned (t' := s.toks) (fun b o hb e => eb b o hb e) f0 f1 f3 f4 f5⟩
 self := fun _ _ _ _ _ st h => let ⟨_, _, e⟩ := st; kcp_self e h
def iDI (td : TE) : TI := fun σ H R => td σ H fun x H1 => ∃ (d : Addr) (kvs : List (Key × V)), x = .ref d ∧ H1 d = some (.dK kvs) ∧ ∀ ob, R (Idi d ob kvs) (upd H1 d (.frz ob (.dK kvs)))
theorem lo_ {X : Cx} {elts : List Expr} {kt : Nat} {tpos : Pos} {o : Expr} {td : TE} {apos cpos : Pos} (ho : PE X o td) (hbase : attributeBase o "items" X.env (eval o X.env) = eval o X.env := by rfl) (hline : (apos.endLine == cpos.line) = true := by rfl) : PI X (.Tuple elts kt tpos) (.Call (.Attribute o "items" apos) [] [] cpos) (iDI td) := by
 intro pins s σ H R I h
 refine wpAny_Call_method0_late hbase hline (thn (ho pins s σ H _ I h) fun v s1 ⟨x, H1, I1, r1, d, kvs, e, hd, q⟩ => ?_)
 subst e
 cases r1
 obtain ⟨ob, es0, ep, hob, hoo, I2⟩ := I1.freeze hd
 obtain ⟨_, hsys, vs0, _, dd⟩ := dk_of I1.hok hd
 refine ⟨"dict", "dict.items", PySem.F.plainAttrs_dict, PySem.F.slot_dict_items, PySem.F.type_dict_items, dd.typeIs, fun b q => ?_, Calls.callWith_builtin rfl (PySem.evalArgs_none ?_)⟩
 ·cases q
  obtain ⟨o2, _, _, h1, h2, _⟩ := id dd
  exact ⟨o2, h1, h2.2.1⟩
 refine call_meetsIn PySem.F.slot_dict_items dd.typeIs PySem.F.entry_dict_items (PySem.F.args_dict_items_1 _) (meets_dict_items (mixKind X.prog X.w) d hsys) ⟨⟨vs0, dd⟩, ?_⟩
 have I3 : Inv X pins σ (upd H1 d (.frz ob (.dK kvs))) { s1 with heap := s1.heap.push { cls := .type "dict_items", data := .fields #[.ref d] } } := I2.kept (t' := s1.toks) fun b o e => Heap.get?_push_of_some _ e
 obtain ⟨vs, rel, da⟩ := lm_ (kvs := kvs) I3.hok ac_ hob
 refine wpAny_pyIter_items (s := { s1 with heap := s1.heap.push { cls := .type "dict_items", data := .fields #[.ref d] } }) ⟨_, Heap.get?_push_size _ rfl, rfl, rfl⟩ da ?_
 rw [← show kvs.length = vs.length from rel.length]
 refine ⟨(s1.heap.push { cls := .type "dict_items", data := .fields #[.ref d] }).objs.size, [_], _, _, upd H1 d (.frz ob (.dK kvs)), rfl, I3.kept (t' := s1.toks) fun b o e => Heap.get?_push_of_some _ e, kA_ hob, ⟨_, _, Heap.get?_push_size _ rfl⟩, fun b hb => ?_, q ob⟩
 have e : b = _ := List.mem_singleton.mp hb
 subst e
 exact I3.fpOk (Nat.le_refl _) (I3.hok.fresh (Nat.le_refl _))
abbrev SHP' := St → Hp → Prop
theorem of_ {d : Addr} {ob : Obj} {kvs : List (Key × V)} {g : TG} {tb : TS} {nx bk ct : SHP'} {rt : VK} {σ : St} {H : Hp} (Pv : Nat → St → Hp → Prop) (h0 : Pv 0 σ H) (hl : ∀ i σ H, i ≤ kvs.length → Pv i σ H → H d = some (.frz ob (.dK kvs)))
  (hs : ∀ (i : Nat) k x T σ H, kvs[i]? = some (k, x) → H T = none → ∀ (kk kb : SHP'), (∀ σ' H', Pv (i + 1) σ' H' → kk σ' H') → (∀ σ' H', nx σ' H' → kb σ' H') → ∀ G : Prop, ((g (.ref T) σ (upd H T (.tup [kV k, x])) fun σ2 H2 => tb ⟨kk, rt, kb, kk⟩ σ2 H2) → G) → Pv i σ H → G) (hd : ∀ σ H, Pv kvs.length σ H → nx σ H) : ForGo (Idi d ob kvs) g tb ⟨nx, rt, bk, ct⟩ σ H := by
 refine ⟨fun i m σ H => m = kvs.length - i ∧ i ≤ kvs.length ∧ Pv i σ H, ⟨kvs.length, by simp, Nat.zero_le _, h0⟩, ?_⟩
 rintro i m σ H ⟨rfl, hi, p⟩
 have q := hl i σ H hi p
 by_cases hlt : i < kvs.length
 ·refine .inr ⟨⟨q, hlt⟩, Pv (i + 1), fun σ' H' p' => ⟨kvs.length - (i + 1), by omega, rfl, hlt, p'⟩, fun x H' y => ?_⟩
  obtain ⟨T, k, v, rfl, hT, hk, rfl⟩ := y
  exact hs i k v T σ H hk hT _ _ (fun _ _ q => q) (fun _ _ q => q) _ id p
 ·have e : i = kvs.length := by omega
  subst e
  exact .inl ⟨⟨q, Nat.le_refl _⟩, hd σ H p⟩
end L2
namespace L2
open PySem PySem.Spec PyProof.Rows
def NX (K : PySem.W.Frag) (H : Hp) : Prop := ∀ a o, K.lookup a = some o → H a = none
theorem nx_of {X : Cx} {pins : List (Addr × Obj)} {σ : St} {H : Hp} {s : Shared} (I : Inv X pins σ H s) : NX X.K H := fun a o e => by
 have h1 := I.ok.mod.kin a o e
 obtain ⟨h2, h3⟩ := I.ok.bs a o h1
 exact I.base.free a o h2 h3 (I.ok.noex a o h1)
def tFact (K : PySem.W.Frag) (t : TE) : TE := fun σ H Q => t σ H fun v H' => NX K H' → Q v H'
theorem c2_ {X : Cx} {K : PySem.W.Frag} {e : Expr} {t : TE} (hK : X.K = K) (he : PE X e t) : PE X e (tFact K t) := by
 subst hK
 intro pins s σ H Q I h
 exact thn (he pins s σ H _ I h) fun v s1 ⟨x, H1, I1, r1, q1⟩ => ⟨x, H1, I1, r1, q1 (nx_of I1)⟩
def rIsT (K : PySem.W.Frag) : List V → Hp → VK → Prop := fun xs H Q => ∃ a ys, xs = [.ref a, .ty "tuple"] ∧ SqT K H a ys ∧ Q (.bl true) H
theorem me_ {X : Cx} {K : PySem.W.Frag} (hK : X.K = K) : CallR X (.builtin "isinstance") (rIsT K) := by
 subst hK
 intro pins s σ H xs us Q I r h
 obtain ⟨a, ys, rfl, hS, q⟩ := h
 obtain ⟨u, w', rfl, rx, ry⟩ := vals2 r
 cases (show w' = Value.type "tuple" from ry)
 cases (show u = Value.ref a from rx)
 obtain ⟨its, rr, ⟨ob, ho, hc, _⟩, hz⟩ := I.tuple hS
 exact IsiPair.tuple_tuple ho hc ⟨.bl true, H, I, rfl, q⟩
theorem ix_ {J : It} {g : TG} {te : TE} {σ : St} {H : Hp} {Q : VK} (F : Hp → Hp) (hF : ∀ A A', Same A A' → Same (F A) (F A')) (n : Nat) (B : Hp) (Pσ : St → Prop) (ds : List Dt) (hB : Same B H) (h0 : Pσ σ) (hlen : ds.length = n) (hz : n ≤ 1000)
  (hgo : ∀ i H', i < n → Same H H' → J.go i H') (hst : ∀ H', Same H H' → J.stop n H')
  (hs : ∀ D i x d σ' H' H'', H D = none → (∃ o, H' D = some o) → Same H H' → i < n → ds[i]? = some d → J.yld i H' x H'' → Pσ σ' → ∀ R : St → V → Hp → Prop,
   (∀ σ2 v H3, Pσ σ2 → Same H' H3 → Rep (F (cutH B D H3)) v d → R σ2 v H3) → g x σ' H'' fun σ2 H2 => te σ2 H2 fun v H3 => R σ2 v H3)
  (hd : ∀ D H' ys, H D = none → Same H H' → H' D = some (.lst ys) → Reps (F (cutH B D H')) ys ds → Q (.ref D) H') : CompGo J g tYes te σ H Q := by
 intro D hD
 refine ⟨fun i m σ' H' => m = n - i ∧ i ≤ n ∧ Pσ σ' ∧ Same H H' ∧ ∃ ys, H' D = some (.lst ys) ∧ Reps (F (cutH B D H')) ys (ds.take i) ∧ ys.length = i, ⟨n, by simp, Nat.zero_le _, h0, Same.new hD, [], ac_, rfl, rfl⟩, ?_⟩
 rintro i m σ' H' ⟨rfl, hi, hp, hs', ys, hys, hr, hl⟩
 by_cases hlt : i < n
 ·refine .inr ⟨hgo i H' hlt hs', fun σ2 H2 => Pσ σ2 ∧ Same H H2 ∧ ∃ ys, H2 D = some (.lst ys) ∧ Reps (F (cutH B D H2)) ys (ds.take (i + 1)) ∧ ys.length = i + 1, fun σ2 H2 ⟨a, b, c⟩ => ⟨n - (i + 1), by omega, rfl, hlt, a, b, c⟩, fun x H'' hy => ?_⟩
  have hdi : ds[i]? = some (ds[i]'(by omega)) := List.getElem?_eq_getElem _
  simp only [tYes, if_true]
  refine hs D i x _ σ' H' H'' hD ⟨_, hys⟩ hs' hlt hdi hy hp _ fun σ2 v H3 hp2 s3 rep => ?_
  refine ⟨ys, s3 _ _ hys, by rw [hl]; exact small1000 (by omega), hp2, fun b o h => ?_, ys ++ [v], ac_, ?_, by simp [hl]⟩
  ·rw [af_ (ag_ h hD)]
   exact s3 b o (hs' b o h)
  ·rw [hr_, List.take_succ, hdi]
   exact (Reps.mono (hF _ _ (f7_ s3)) _ hr).append ⟨v, [], rfl, rep, rfl⟩
 ·have e : i = n := by omega
  subst e
  refine .inl ⟨hst H' hs', hd D H' ys hD hs' hys ?_⟩
  rwa [List.take_of_length_le (by omega)] at hr
theorem nm_ {K : PySem.W.Frag} {a : Addr} {xs : List V} {g : TG} {tb : TS} {nx bk ct : St → Hp → Prop} {rt : VK} {σ : St} {H : Hp} (Pv : Nat → St → Hp → Prop) (h0 : Pv 0 σ H) (hl : ∀ i σ H, i ≤ xs.length → Pv i σ H → SqT K H a xs)
  (hs : ∀ (i : Nat) x σ H, xs[i]? = some x → ∀ (kk kb : St → Hp → Prop), (∀ σ' H', Pv (i + 1) σ' H' → kk σ' H') → (∀ σ' H', nx σ' H' → kb σ' H') → ∀ G : Prop, ((g x σ H fun σ2 H2 => tb ⟨kk, rt, kb, kk⟩ σ2 H2) → G) → Pv i σ H → G) (hd : ∀ σ H, Pv xs.length σ H → nx σ H) : ForGo (Itt K a) g tb ⟨nx, rt, bk, ct⟩ σ H := by
 refine ⟨fun i m σ H => m = xs.length - i ∧ i ≤ xs.length ∧ Pv i σ H, ⟨xs.length, by simp, Nat.zero_le _, h0⟩, ?_⟩
 rintro i m σ H ⟨rfl, hi, p⟩
 have q := hl i σ H hi p
 by_cases hlt : i < xs.length
 ·refine .inr ⟨⟨xs, xs[i], q, by simp [hlt]⟩, Pv (i + 1), fun σ' H' p' => ⟨xs.length - (i + 1), by omega, rfl, hlt, p'⟩, fun x H' y => ?_⟩
  obtain ⟨rfl, hy⟩ := y
  exact hs i x σ H' (hy xs q) _ _ (fun _ _ q => q) (fun _ _ q => q) _ id p
 ·have e : i = xs.length := by omega
  subst e
  exact .inl ⟨⟨xs, q, Nat.le_refl _⟩, hd σ H p⟩
end L2
namespace RimM
structure Is (p : Int × Int) (t b : Int) : Prop where
 low : Low p
 ne : b ≠ 0
 eq : p.1 * b = t * p.2
theorem is_nf {t b : Int} (h : b ≠ 0) : Is (nf t b) t b := ⟨(in_ h).1, h, (in_ h).2.symm⟩
theorem Is.to {p : Int × Int} {t b : Int} (h : Is p t b) : p = nf t b := by
 have := h.low.pos
 rw [← io_ h.low]
 exact nf_eq (by omega) h.ne h.eq
theorem Is.conv {p : Int × Int} {t b t' b' : Int} (h : Is p t b) (hb : b' ≠ 0) (e : t * b' = t' * b) : Is p t' b' := by
 rw [h.to, nf_eq h.ne hb e]
 exact is_nf hb
theorem eD_ {p : Int × Int} (h : Low p) : Is p p.1 p.2 := ⟨h, by have := h.pos; omega, rfl⟩
theorem Is.mul {p q : Int × Int} {t b t' b' : Int} (h : Is p t b) (h' : Is q t' b') : Is (nf (p.1 * q.1) (p.2 * q.2)) (t * t') (b * b') := by
 have p0 := h.low.pos
 have q0 := h'.low.pos
 refine (is_nf (Int.mul_ne_zero (by omega) (by omega))).conv (Int.mul_ne_zero h.ne h'.ne) ?_
 calc p.1 * q.1 * (b * b') = (p.1 * b) * (q.1 * b') := by ac_rfl
  _ = (t * p.2) * (t' * q.2) := by rw [h.eq, h'.eq]
  _ = t * t' * (p.2 * q.2) := by ac_rfl
theorem Is.add {p q : Int × Int} {t b t' b' : Int} (h : Is p t b) (h' : Is q t' b') : Is (nf (p.1 * q.2 + q.1 * p.2) (p.2 * q.2)) (t * b' + t' * b) (b * b') := by
 have p0 := h.low.pos
 have q0 := h'.low.pos
 refine (is_nf (Int.mul_ne_zero (by omega) (by omega))).conv (Int.mul_ne_zero h.ne h'.ne) ?_
 calc (p.1 * q.2 + q.1 * p.2) * (b * b') = (p.1 * b) * (q.2 * b') + (q.1 * b') * (p.2 * b) := by rw [Int.add_mul]; congr 1 <;> ac_rfl
  _ = (t * p.2) * (q.2 * b') + (t' * q.2) * (p.2 * b) := by rw [h.eq, h'.eq]
  _ = (t * b' + t' * b) * (p.2 * q.2) := by rw [Int.add_mul]; congr 1 <;> ac_rfl
theorem Is.sub {p q : Int × Int} {t b t' b' : Int} (h : Is p t b) (h' : Is q t' b') : Is (nf (p.1 * q.2 - q.1 * p.2) (p.2 * q.2)) (t * b' - t' * b) (b * b') := by
 have p0 := h.low.pos
 have q0 := h'.low.pos
 refine (is_nf (Int.mul_ne_zero (by omega) (by omega))).conv (Int.mul_ne_zero h.ne h'.ne) ?_
 calc (p.1 * q.2 - q.1 * p.2) * (b * b') = (p.1 * b) * (q.2 * b') - (q.1 * b') * (p.2 * b) := by rw [Int.sub_mul]; congr 1 <;> ac_rfl
  _ = (t * p.2) * (q.2 * b') - (t' * q.2) * (p.2 * b) := by rw [h.eq, h'.eq]
  _ = (t * b' - t' * b) * (p.2 * q.2) := by rw [Int.sub_mul]; congr 1 <;> ac_rfl
theorem Low.neg {p : Int × Int} (h : Low p) : Low (-p.1, p.2) := ⟨h.pos, by show Int.gcd (-p.1) p.2 = 1; rw [Int.neg_gcd]; exact h.co⟩
theorem Is.neg {p : Int × Int} {t b : Int} (h : Is p t b) : Is (-p.1, p.2) (-t) b := ⟨h.low.neg, h.ne, by show -p.1 * b = -t * p.2; rw [Int.neg_mul, Int.neg_mul, h.eq]⟩
theorem Is.share {p q : Int × Int} {t b t' b' : Int} (h : Is p t b) (h' : Is q t' b') (ht : t' ≠ 0) :
  (q.1 < 0 → Is (-(nf (p.1 * q.2) (p.2 * -q.1)).1, (nf (p.1 * q.2) (p.2 * -q.1)).2) (t * b') (b * t')) ∧ (¬ q.1 < 0 → Is (nf (p.1 * q.2) (p.2 * q.1)) (t * b') (b * t')) := by
 have p0 := h.low.pos
 have q0 := h'.low.pos
 have q1 : q.1 ≠ 0 := fun z => by
  have e := h'.eq
  rw [z, Int.zero_mul] at e
  rcases Int.mul_eq_zero.mp e.symm with a | a
  ·exact ht a
  ·omega
 have key : p.1 * q.2 * (b * t') = t * b' * (p.2 * q.1) := by
  calc p.1 * q.2 * (b * t') = (p.1 * b) * (t' * q.2) := by ac_rfl
   _ = (t * p.2) * (q.1 * b') := by rw [h.eq, h'.eq]
   _ = t * b' * (p.2 * q.1) := by ac_rfl
 have bt : b * t' ≠ 0 := Int.mul_ne_zero h.ne ht
 refine ⟨fun hn => ?_, fun hn => (is_nf (Int.mul_ne_zero (by omega) q1)).conv bt key⟩
 have z := (is_nf (t := p.1 * q.2) (b := p.2 * -q.1) (Int.mul_ne_zero (by omega) (by omega))).neg
 refine z.conv bt ?_
 rw [Int.neg_mul, key, Int.mul_neg, Int.mul_neg]
theorem gn_ {t b : Int} (hb : b ≠ 0) : (nf t b).1.natAbs ≤ t.natAbs ∧ (nf t b).2.natAbs ≤ b.natAbs := by
 have key : ∀ {t b : Int}, 0 < b → (nf t b).1.natAbs ≤ t.natAbs ∧ (nf t b).2.natAbs ≤ b.natAbs := fun {t b} h => by
  rw [jS_ h]
  exact ⟨by have := Int.natAbs_ediv_le_natAbs t (Int.gcd t b : Int); omega, by have := Int.natAbs_ediv_le_natAbs b (Int.gcd t b : Int); omega⟩
 rcases Int.lt_or_lt_of_ne hb with h | h
 ·rw [mG_ h]
  have := key (t := -t) (b := -b) (by omega)
  omega
 ·exact key h
theorem hG_ {b : Int} (hb : b ≠ 0) : nf 0 b = (0, 1) := by
 have : nf 0 1 = (0, 1) := by decide
 rw [← this]
 exact nf_eq hb (by decide) (by omega)
theorem Is.zero {p : Int × Int} {t b : Int} (h : Is p t b) : p = (0, 1) ↔ t = 0 := by
 refine ⟨fun e => ?_, fun e => ?_⟩
 ·have z := h.eq
  rw [e] at z
  simp at z
  omega
 ·rw [h.to, e]
  exact hG_ h.ne
theorem Is.inj {p q : Int × Int} {t b : Int} (h : Is p t b) (h' : Is q t b) : p = q := h.to.trans h'.to.symm
theorem Is.plus {p q : Int × Int} {t t' b : Int} (h : Is p t b) (h' : Is q t' b) : Is (nf (p.1 * q.2 + q.1 * p.2) (p.2 * q.2)) (t + t') b := by
 refine (h.add h').conv h.ne ?_
 rw [← Int.add_mul, Int.mul_assoc]
theorem Is.same {p q : Int × Int} {d L C Lc : Int} (h : Is p (d * (L * C)) (L * (d * Lc))) (h' : Is q C Lc) : p = q := by
 refine Is.inj (t := C) (b := Lc) (h.conv h'.ne ?_) h'
 ac_rfl
end RimM
namespace RimT
theorem go_ {α : Type} : ∀ {a b : List α}, a.Nodup → b.Nodup → (∀ x, x ∈ a ↔ x ∈ b) → a.Perm b
 | [], b, _, _, h => by
  have : b = [] := List.eq_nil_iff_forall_not_mem.mpr fun x hx => absurd ((h x).mpr hx) List.not_mem_nil
  rw [this]
 | x :: a, b, na, nb, h => by
  obtain ⟨s, t, rfl⟩ := List.append_of_mem ((h x).mp List.mem_cons_self)
  obtain ⟨n1, n2⟩ := List.nodup_cons.mp na
  have p : (x :: (s ++ t)).Perm (s ++ x :: t) := List.perm_middle.symm
  obtain ⟨m1, m2⟩ := List.nodup_cons.mp (p.nodup_iff.mpr nb)
  refine (List.Perm.cons x (go_ n2 m2 fun y => ?_)).trans p
  have hy := h y
  rw [← p.mem_iff, List.mem_cons, List.mem_cons] at hy
  constructor
  ·intro hm
   exact (hy.mp (.inr hm)).resolve_left fun z => n1 (z ▸ hm)
  ·intro hm
   exact (hy.mpr (.inr hm)).resolve_left fun z => m1 (z ▸ hm)
section
variable {α : Type} [DecidableEq α]
def Reg (T : List (List α)) (P : Nat) (c : Nat × Nat) (l : List (Nat × Nat)) : Prop := Way T P l c ∧ l.head? = some c ∧ l.Nodup
open Classical in
noncomputable def cyc (T : List (List α)) (P : Nat) (c : Nat × Nat) : List (Nat × Nat) := if h : ∃ l, Reg T P c l then choose h else []
noncomputable def fdF (T : List (List α)) (P : Nat) (O : List (Nat × Nat)) : List (List (Nat × Nat)) := O.foldl (fun F c => if c ∈ F.flatten then F else F ++ [cyc T P c]) []
end
section
variable {S : Type} [DecidableEq S]
structure PostsOk (N : Net S) : Prop where
 pnd : N.posts.Nodup
 pin : ∀ p ∈ N.posts, p ∈ N.rows.map (·.1)
 p0 : 0 < N.posts.length
variable (d0 : S)
variable {d0}
end
end RimT
namespace RimM
def Ws (p : Int × Int) : Prop := Low p ∧ 0 < p.1 ∧ p.1 ≤ 1000 ∧ p.2 ≤ 1000
theorem ws_nf {t b : Int} (t0 : 0 < t) (t1 : t ≤ 1000) (b0 : 0 < b) (b1 : b ≤ 1000) : Ws (nf t b) := by
 have h := is_nf (t := t) (b := b) (by omega)
 have hp := h.low.pos
 have ha := gn_ (t := t) (b := b) (by omega)
 have h1 : 0 < (nf t b).1 := by
  have e := h.eq
  have h3 : 0 < t * (nf t b).2 := Int.mul_pos t0 hp
  rw [← e] at h3
  exact Int.pos_of_mul_pos_left h3 b0
 exact ⟨h.low, h1, by omega, by omega⟩
def bot {S : Type} : List (S × (Int × Int)) → Int
 | [] => 1
 | x :: l => x.2.2 * bot l
theorem lp_ {S : Type} : ∀ {l : List (S × (Int × Int))}, (∀ x ∈ l, Ws x.2) → 0 < bot l ∧ bot l ≤ 1000 ^ l.length
 | [], _ => ⟨by show (0 : Int) < 1; decide, by show (1 : Int) ≤ 1; decide⟩
 | x :: l, h => by
  obtain ⟨a, b⟩ := lp_ (l := l) fun y hy => h y (List.mem_cons_of_mem _ hy)
  have w := h x List.mem_cons_self
  have wp := w.1.pos
  refine ⟨Int.mul_pos wp a, ?_⟩
  rw [List.length_cons, Int.pow_succ, Int.mul_comm ((1000 : Int) ^ l.length)]
  exact Int.mul_le_mul w.2.2.2 b (Int.le_of_lt a) (by decide)
theorem lq_ {S : Type} : ∀ {l : List (S × (Int × Int))} {x : S × (Int × Int)}, x ∈ l → x.2.2 ∣ bot l
 | y :: l, x, h => by
  rcases List.mem_cons.mp h with rfl | h
  ·exact Int.dvd_mul_right _ _
  ·exact Int.dvd_trans (lq_ h) (Int.dvd_mul_left _ _)
theorem og_ {n : Nat} (h : n ≤ 15) : (1000 : Int) ^ n ≤ 1000 ^ 15 := by
 have h1 : ∀ m : Nat, (1000 : Int) ^ n ≤ 1000 ^ (n + m) := fun m => by
  induction m with
  | zero => exact Int.le_refl _
  | succ m ih =>
   have h0 : (0 : Int) < 1000 ^ (n + m) := Int.pow_pos (by decide)
   rw [← Nat.add_assoc, Int.pow_succ]
   generalize (1000 : Int) ^ (n + m) = z at *
   omega
 have h2 := h1 (15 - n)
 rwa [show n + (15 - n) = 15 by omega] at h2
def Xw (B : Int) (p : Int × Int) : Int := p.1 * (B / p.2)
theorem is_Xw {B : Int} {p : Int × Int} (h : Low p) (hB : 0 < B) (hd : p.2 ∣ B) : Is p (Xw B p) B :=
 ⟨h, by omega, by unfold Xw; rw [Int.mul_assoc, Int.ediv_mul_cancel hd]⟩
theorem Xw_le {B : Int} {p : Int × Int} (h : Ws p) (hB : 0 < B) : (Xw B p).natAbs ≤ (1000 * B).natAbs := by
 have hp := h.1.pos
 have h1 : B / p.2 ≤ B := Int.ediv_le_self _ (by omega)
 have h0 : 0 ≤ B / p.2 := Int.ediv_nonneg (by omega) (by omega)
 have h2 : p.1 * (B / p.2) ≤ 1000 * B := Int.mul_le_mul h.2.2.1 h1 h0 (by decide)
 have h3 : 0 ≤ p.1 * (B / p.2) := Int.mul_nonneg (Int.le_of_lt h.2.1) h0
 unfold Xw
 omega
theorem Is.plusB {p q : Int × Int} {x y B : Int} (h : Is p x B) (h' : Is q y B) : nf (p.1 * q.2 + q.1 * p.2) (p.2 * q.2) = nf (x + y) B := by
 have z := h.add h'
 exact (z.conv h.ne (by rw [← Int.add_mul, Int.mul_assoc])).to
theorem Is.minusB {p q : Int × Int} {x y B : Int} (h : Is p x B) (h' : Is q y B) : nf (p.1 * q.2 - q.1 * p.2) (p.2 * q.2) = nf (x - y) B := by
 have z := h.sub h'
 exact (z.conv h.ne (by rw [← Int.sub_mul, Int.mul_assoc])).to
def fmin (p q : Int × Int) : Int × Int := nf (p.1 * q.2 - q.1 * p.2) (p.2 * q.2)
def fmul (p q : Int × Int) : Int × Int := nf (p.1 * q.1) (p.2 * q.2)
def fovr (p q : Int × Int) : Int × Int := nf (p.1 * q.2) (p.2 * q.1)
theorem j2_ {p q : Int × Int} (h : Low p) (h' : Low q) : Low (fmin p q) := ((eD_ h).sub (eD_ h')).low
theorem j3_ {p q : Int × Int} (h : Low p) (h' : Low q) : Low (fmul p q) := ((eD_ h).mul (eD_ h')).low
theorem j4_ {p q : Int × Int} (h : Low p) (h' : Low q) (z : q.1 ≠ 0) : Low (fovr p q) := (is_nf (Int.mul_ne_zero (by have := h.pos; omega) z)).low
theorem mf_ {x y z d : Int × Int} (hx : Low x) (hy : Low y) (hz : Low z) (hd : Low d) (d0 : d.1 ≠ 0) : fmul (fmin x (fmin x (fmul (fovr y d) z))) d = fmul y z := by
 have x0 := hx.pos
 have y0 := hy.pos
 have z0 := hz.pos
 have h1 : Is (fovr y d) (y.1 * d.2) (y.2 * d.1) := is_nf (Int.mul_ne_zero (by omega) d0)
 have h2 : Is (fmul (fovr y d) z) _ _ := h1.mul (eD_ hz)
 have h3 : Is (fmin x (fmul (fovr y d) z)) _ _ := (eD_ hx).sub h2
 have h4 : Is (fmin x (fmin x (fmul (fovr y d) z))) _ _ := (eD_ hx).sub h3
 have h5 : Is (fmul (fmin x (fmin x (fmul (fovr y d) z))) d) _ _ := h4.mul (eD_ hd)
 rw [h5.to]
 refine nf_eq h5.ne (Int.mul_ne_zero (by omega) (by omega)) ?_
 grind
end RimM
namespace RimT
open RimM
variable {S : Type} [DecidableEq S]
def cf (x y : S) (e : S × S × Int) : Int := (if x = e.1 ∧ y = e.1 then e.2.2 else 0) - (if x = e.1 ∧ y = e.2.1 then e.2.2 else 0) + (if x = e.2.1 ∧ y = e.2.1 then e.2.2 else 0) - (if x = e.2.1 ∧ y = e.1 then e.2.2 else 0)
def sm (E : List (S × S × Int)) (x y : S) : Int := (E.map (cf x y)).sum
def fadd (f : S → S → Int) (a b : S) (d : Int) : S → S → Int := fun x y => if x = a ∧ y = b then f x y + d else f x y
theorem jj_ (E : List (S × S × Int)) (e : S × S × Int) (x y : S) : sm (E ++ [e]) x y = sm E x y + cf x y e := by
 unfold sm
 rw [List.map_append, List.sum_append]
 simp
theorem nn_ {E F : List (S × S × Int)} (h : E.Perm F) (x y : S) : sm E x y = sm F x y := by
 unfold sm
 induction h with
 | nil => rfl
 | cons a _ ih => rw [List.map_cons, List.map_cons, List.sum_cons, List.sum_cons, ih]
 | swap a b l => simp only [List.map_cons, List.sum_cons]; omega
 | trans _ _ h1 h2 => exact h1.trans h2
theorem no_ (x y : S) (e : S × S × Int) : cf x y e = cf y x e := by
 unfold cf
 simp only [and_comm (a := y = _)]
 omega
theorem np_ (E : List (S × S × Int)) (x y : S) : sm E x y = sm E y x := by
 unfold sm
 congr 1
 exact List.map_congr_left fun e _ => no_ x y e
theorem nq_ (x y p : S) (X : Int) : cf x y (p, p, X) = 0 := by
 unfold cf
 simp only
 split <;> omega
theorem four (f : S → S → Int) (p q : S) (X : Int) : fadd (fadd (fadd (fadd f p p X) p q (-X)) q q X) q p (-X) = fun x y => f x y + cf x y (p, q, X) := by
 funext x y
 unfold fadd cf
 simp only
 split <;> split <;> split <;> split <;> omega
theorem nr_ {f : S → S → Int} {n m : Nat} {a b : S} {d : Int} (h : ∀ x y, (f x y).natAbs ≤ n * m) (hd : d.natAbs ≤ m) (x y : S) : (fadd f a b d x y).natAbs ≤ (n + 1) * m := by
 unfold fadd
 have := h x y
 rw [Nat.add_mul]
 split <;> omega
theorem sm_le {m : Nat} : ∀ (E : List (S × S × Int)), (∀ e ∈ E, e.2.2.natAbs ≤ m) → ∀ x y, (sm E x y).natAbs ≤ 4 * E.length * m
 | [], _, x, y => Nat.zero_le _
 | e :: E, h, x, y => by
  have a := sm_le E (fun z hz => h z (List.mem_cons_of_mem _ hz)) x y
  have b := h e List.mem_cons_self
  have c : (cf x y e).natAbs ≤ 4 * m := by
   unfold cf
   split <;> split <;> split <;> split <;> omega
  unfold sm at a ⊢
  rw [List.map_cons, List.sum_cons, List.length_cons, Nat.mul_add, Nat.add_mul, Nat.mul_one]
  omega
end RimT
namespace L2
open PySem PySem.Spec PyProof.Rows
end L2
namespace Rim21
open PySem PySem.Spec PyProof.Rows L2 RimM
theorem kB_ : plainT "int" = True := eq_true (.inl rfl)
theorem jk_ : plainT "bool" = True := eq_true (.inr (.inl rfl))
theorem iy_ : plainT "tuple" = True := eq_true (.inr (.inr (.inl rfl)))
theorem jl_ : plainT "list" = True := eq_true (.inr (.inr (.inr (.inl rfl))))
theorem kC_ : plainT "str" = True := eq_true (.inr (.inr (.inr (.inr rfl))))
theorem j5_ {x y : Int} (hx : 0 ≤ x) (hy : 0 < y) : Int.gcd y (x % y) = Int.gcd x y := by
 obtain ⟨m, rfl⟩ := Int.eq_ofNat_of_zero_le hx
 obtain ⟨n, rfl⟩ := Int.eq_ofNat_of_zero_le (Int.le_of_lt hy)
 show Int.gcd (n : Int) ((m : Int) % (n : Int)) = Int.gcd (m : Int) (n : Int)
 rw [← Int.natCast_emod, Int.gcd_natCast_natCast, Int.gcd_natCast_natCast, Nat.gcd_comm n, ← Nat.gcd_rec, Nat.gcd_comm]
local macro_rules | `(tactic| walk_at "s2") => `(tactic| simp only [tSeq, tAsg, gName, tTup, tLst, tCons, tNil, tVar, tC, tCB, tOp, rI, rI0, tTest, tIfS, tNext, tRet, tRetN, tDrop, tB, tAnd, tOr, tNot, tAndV, tOrV, tNotV, rU, tUn, tBM0, tBM, rBits, tCall, L2.start, rIxTH, rIxLH, rLenH, rEqTH, rEq, rNe, scal, tyV, CMul, CMulB, CDivB, CDivF, CPow, List.map_cons, List.map_nil, List.length_cons, List.length_nil, List.replicate, List.cons_append, List.nil_append, List.append_nil, List.set_cons_zero, List.set_cons_succ, List.getElem?_cons_zero, List.getElem?_cons_succ, Option.some.injEq, List.cons.injEq, V.int.injEq, V.bl.injEq, V.str.injEq, V.ref.injEq, V.ty.injEq, HO.tup.injEq, HO.lst.injEq, exists_eq_left, exists_eq_left', exists_and_left, and_assoc, and_true, true_and, ac_, atI_0, atI_1, atI_2, Nat.zero_add, Nat.reduceAdd, Nat.reduceSub, decide_eq_true_eq, Bool.not_eq_true', decide_eq_false_iff_not, reduceCtorEq, false_or, or_false, true_or, or_true, kB_, jk_, iy_, jl_, kC_, Bool.false_eq_true, if_false, if_true, Bool.not_false, Bool.not_true, Bool.not_not, gSub, rSetL, n0_, mT_, rCat, iRng1, m5_, tPar, iList, tComp, pick, tYes, iZip, gTup, gCons, gNil, rSum, rListH, List.map, Option.bind, iRng2, iRngD, tSl, rSlH, tPart, tNoPart, tPar3, tDGet, tDIn, tDNotIn, sDPut, tDNewK, tDNewT, rAppend, rNeD, tSortRev, rInsert, rMulS, rIxS, rSlS, tLRange, rPopAt, rSetDef, iEnum, iDV, iDK, rIn, rExtend, tTest, rClear, rReverse, gLst2, rUpdT, rIndexS, rPop, tNotN, mM_, tFact, tDGet2, iDI, tIsN, iTup, rIxT, rIsT, rEqV, rNeV, rDictP, rEqD, tTry, rIsiX])
local macro_rules | `(tactic| walk_at "s1") => `(tactic| first | (dsimp only [tSeq, tAsg, gName, tTup, tLst, tCons, tNil, tVar, tC, tCB, tOp, rI, rI0, tTest, tIfS, tNext, tRet, tRetN, tDrop, tB, tAnd, tOr, tNot, tAndV, tOrV, tNotV, rU, tUn, tBM0, tBM, rBits, tCall, L2.start, rIxTH, rIxLH, rLenH, rEqTH, rEq, rNe, CMul, CMulB, CDivB, CDivF, CPow, List.map_cons, List.map_nil, List.length_cons, List.length_nil, List.replicate, List.cons_append, List.nil_append, List.set_cons_zero, List.set_cons_succ, List.getElem?_cons_zero, List.getElem?_cons_succ, gSub, rSetL, rCat, iRng1, tPar, iList, tComp, pick, tYes, iZip, gTup, gCons, gNil, rSum, rListH, List.map, iRng2, iRngD, tSl, rSlH, tPart, tNoPart, tPar3, tDGet, tDIn, tDNotIn, sDPut, tDNewK, tDNewT, rAppend, rNeD, tSortRev, rInsert, rMulS, rIxS, rSlS, tLRange, rPopAt, rSetDef, iEnum, iDV, iDK, rIn, rExtend, tTest, rClear, rReverse, gLst2, rUpdT, rIndexS, rPop, tNotN, mM_, tFact, tDGet2, iDI, tIsN, iTup, rIxT, rIsT, rEqV, rNeV, rDictP, rEqD, tTry, rIsiX]; try walk_at "s2") | walk_at "s2")
local macro_rules | `(tactic| walk_at "bx") => `(tactic| first | (refine nl_ ?_; intro _ _) | refine oe_ (by assumption) ?_ | refine box_g (by assumption) ?_)
local macro_rules | `(tactic| walk_at "rd") => `(tactic| ((first | walk_at "s1" | (walk_at "bx"; try walk_at "s1")); repeat (walk_at "bx"; try walk_at "s1")))
structure Txt (K : PySem.W.Frag) (mg : Str → Option Value) : Prop where
 n_abs : mg "abs" = none
 n_max : mg "max" = none
 n_min : mg "min" = none
 n_ValueError : mg "ValueError" = none
 c_LONG_BITS : ∃ t, mg "LONG_BITS" = some (.int 8000 t)
 n_dict : mg "dict" = none
 n_len : mg "len" = none
 n_range : mg "range" = none
 n_list : mg "list" = none
 n_isinstance : mg "isinstance" = none
 n_int : mg "int" = none
 n_bool : mg "bool" = none
 n_tuple : mg "tuple" = none
 n_str : mg "str" = none
 n_enumerate : mg "enumerate" = none
 n_sorted : mg "sorted" = none
variable {P : Program} {w : World} {K : PySem.W.Frag} {mg : Str → Option Value} {base : Heap}
theorem mg_ {b : Int} (h : b ≠ 0) : Builtin.Int.intBits b = b.natAbs.log2 + 1 := by
 unfold Builtin.Int.intBits
 simp [h]
theorem mN_ {g b : Int} (h0 : g ≠ 0) (h1 : g.natAbs ≤ b.natAbs) (hb : Builtin.Int.intBits b ≤ 8000) : g.natAbs.log2 < 9000 := by
 have h := PyProof.Rows.bits_of_natAbs_le (a := g) (b := b) (n := 8000) h1 hb
 rw [mg_ h0] at h
 omega
abbrev LK (s : Stmt) (x : Str) (k : NameKind) : Prop := (defScope s).names.lookup x = some k
abbrev stN (i : Nat) : Stmt := PySem.Challenge.pw_rimread_k21_points_taken_out.main.body.getD i (.Pass ⟨0, 0, 0, 0⟩)
abbrev s_Lcell_at : Stmt := stN 28
theorem jm_ : FnScope ["_law_script", "_law_k"] ["_law_script", "_law_k"] (defScope s_Lcell_at) := ⟨rfl, rfl, rfl, by decide +kernel, rfl, by decide +kernel, by decide +kernel⟩
theorem eE_ : LK s_Lcell_at "_law_script" .local := by decide +kernel
theorem eF_ : LK s_Lcell_at "_law_k" .local := by decide +kernel
theorem gp_ : LK s_Lcell_at "len" .globalImplicit := by decide +kernel
def sp_cell (K : PySem.W.Frag) : Sp := fun vs H Q _ => ∃ (a : Addr) (ns : List Int) (i : Int), vs = [.ref a, .int i] ∧ SqL K H a (ns.map V.int) ∧ 0 ≤ i ∧ ∀ z, Q (.int z) H
theorem jn_ (T : Txt K mg) (F : Fn0 K mg "_law_cell_at" s_Lcell_at) : Cal P w K mg base "_law_cell_at" ["_law_script", "_law_k"] 1 (sp_cell K) := by
 refine aJ_ F jm_ (fun _ _ _ _ _ _ us hl => match us, hl with | [_, _], _ => rfl) ?len ?body
 case len => rintro vs H Q E ⟨a, b, c, rfl, _⟩; rfl
 case body =>
  intro f cdv A outer s H vs Q E hr h
  obtain ⟨a, ns, i, rfl, hS, h0, k⟩ := h
  refine' ⟨_, ?D, ?R⟩
  case D =>
   refine' ad_ ?g1 ?g2
   case' g1 => refine' ps_if ?g3 ?g4 aL_
   case' g3 => refine' az_ op_lt (pv1 1 rfl eF_) ?g7 (nomark _)
   case' g7 => refine' al_ dx_ gp_ T.n_len aQ_ ?g8
   case' g8 => refine' pa_c (pv1 0 rfl eE_) aa_
   case' g4 => refine' ae_ ?g11
   case' g11 => refine' aq_ ?g12
   case' g12 => refine' pe_ix (l1_ (K := K) rfl) (pv1 0 rfl eE_) (pv1 1 rfl eF_) (fun _ _ => rfl)
   case' g2 => refine' ae_ ?g15
   case' g15 => refine' aq_ ab_
  case R =>
   walk_at "rd"
   refine ⟨_, .inl hS, ?_⟩
   rw [List.length_map]
   refine ite2 (fun hl => ?_) (fun hl => ?_)
   ·refine ⟨a, _, i, V.int (ns.getD i.toNat 0), rfl, rfl, hS, b8_ h0 ?_, k _⟩
    have : i.toNat < ns.length := by omega
    simp [List.getElem?_map, this, List.getD]
   ·exact k 0
abbrev s_Lbig : Stmt := stN 29
theorem dB_ : FnScope ["_law_script", "_law_at", "_law_by", "_law_prime", "_law_cell", "_law_big_here", "_law_k", "_law_one"] ["_law_script", "_law_at"] (defScope s_Lbig) := ⟨rfl, rfl, rfl, by decide +kernel, rfl, by decide +kernel, by decide +kernel⟩
theorem iz_ : LK s_Lbig "_law_script" .local := by decide +kernel
theorem iA_ : LK s_Lbig "_law_at" .local := by decide +kernel
theorem iB_ : LK s_Lbig "_law_by" .local := by decide +kernel
theorem iC_ : LK s_Lbig "_law_prime" .local := by decide +kernel
theorem gq_ : LK s_Lbig "_law_cell" .local := by decide +kernel
theorem eG_ : LK s_Lbig "_law_big_here" .local := by decide +kernel
theorem cJ_ : LK s_Lbig "_law_k" .local := by decide +kernel
theorem iD_ : LK s_Lbig "_law_one" .local := by decide +kernel
theorem dp_ : LK s_Lbig "_law_cell_at" .globalImplicit := by decide +kernel
theorem hH_ : LK s_Lbig "range" .globalImplicit := by decide +kernel
def sp_big (K : PySem.W.Frag) : Sp := fun vs H Q _ => ∃ (a : Addr) (ns : List Int) (j : Int), vs = [.ref a, .int j] ∧ 0 ≤ j ∧ SqL K H a (ns.map V.int) ∧ ∀ z H', Same H H' → Q (.int z) H'
theorem by_at {a0 a1 a2 a3 a4 a5 a6 a7 : Int} (i : Int) (h0 : 0 ≤ i) (h1 : i < 8) (P : Int → Prop) (p0 : P a0) (p1 : P a1) (p2 : P a2) (p3 : P a3) (p4 : P a4) (p5 : P a5) (p6 : P a6) (p7 : P a7) :
  ∃ v, atI [V.int a0, .int a1, .int a2, .int a3, .int a4, .int a5, .int a6, .int a7] i = some (.int v) ∧ P v := by
 have : i = 0 ∨ i = 1 ∨ i = 2 ∨ i = 3 ∨ i = 4 ∨ i = 5 ∨ i = 6 ∨ i = 7 := by omega
 rcases this with rfl | rfl | rfl | rfl | rfl | rfl | rfl | rfl
 ·exact ⟨_, rfl, p0⟩
 ·exact ⟨_, rfl, p1⟩
 ·exact ⟨_, rfl, p2⟩
 ·exact ⟨_, rfl, p3⟩
 ·exact ⟨_, rfl, p4⟩
 ·exact ⟨_, rfl, p5⟩
 ·exact ⟨_, rfl, p6⟩
 ·exact ⟨_, rfl, p7⟩
theorem ns_ (T : Txt K mg) (F : Fn0 K mg "_law_big" s_Lbig) (C_Lcell_at : Cal P w K mg base "_law_cell_at" ["_law_script", "_law_k"] 1 (sp_cell K)) : Cal P w K mg base "_law_big" ["_law_script", "_law_at"] 2 (sp_big K) := by
 refine aJ_ F dB_ (fun _ _ _ _ _ _ us hl => match us, hl with | [_, _], _ => rfl) ?len ?body
 case len => rintro vs H Q E ⟨a, b, c, rfl, _⟩; rfl
 case body =>
  intro f cdv A outer s H vs Q E hr h
  obtain ⟨a, ns, j, rfl, hj, hS, k⟩ := h
  refine' ⟨_, ?D, ?R⟩
  case D =>
   refine' ad_ ?g1 ?g2
   case' g1 => refine' ai_ (i := 2) dB_.nd rfl iB_ ?g3
   case' g3 => refine' aH_ ?g4
   case' g4 => refine' pa_c ab_ ?g6
   case' g6 => refine' pa_c ab_ ?g8
   case' g8 => refine' pa_c ab_ ?g10
   case' g10 => refine' pa_c ab_ ?g12
   case' g12 => refine' pa_c ab_ ?g14
   case' g14 => refine' pa_c ab_ ?g16
   case' g16 => refine' pa_c ab_ ?g18
   case' g18 => refine' pa_c ab_ aa_
   case' g2 => refine' ad_ ?g21 ?g22
   case' g21 => refine' ai_ (i := 3) dB_.nd rfl iC_ ?g23
   case' g23 => refine' aH_ ?g24
   case' g24 => refine' pa_c ab_ ?g26
   case' g26 => refine' pa_c ab_ ?g28
   case' g28 => refine' pa_c ab_ ?g30
   case' g30 => refine' pa_c ab_ ?g32
   case' g32 => refine' pa_c ab_ ?g34
   case' g34 => refine' pa_c ab_ ?g36
   case' g36 => refine' pa_c ab_ ?g38
   case' g38 => refine' pa_c ab_ aa_
   case' g22 => refine' ad_ ?g41 ?g42
   case' g41 => refine' ai_ (i := 4) dB_.nd rfl gq_ ?g43
   case' g43 => refine' aj_ C_Lcell_at (hr.mono (by decide)) dp_ ?g44
   case' g44 => refine' pa_c (pv1 0 rfl iz_) ?g46
   case' g46 => refine' pa_c (pv1 1 rfl iA_) aa_
   case' g42 => refine' ad_ ?g49 ?g50
   case' g49 => refine' ps_if ?g51 ?g52 aL_
   case' g51 => refine' az_ op_ge (pv1 4 rfl gq_) ?g55 (nomark _)
   case' g55 => refine' pe_op mz_ ab_ ab_
   case' g52 => refine' ae_ ?g58
   case' g58 => refine' aq_ (pv1 4 rfl gq_)
   case' g50 => refine' ad_ ?g60 ?g61
   case' g60 => refine' ai_ (i := 5) dB_.nd rfl eG_ ab_
   case' g61 => refine' ad_ ?g63 ?g64
   case' g63 => refine' bg_ PassesOwn.never rfl ?g65 ?g66 ?g67
   case' g65 => refine' aS_ hH_ T.n_range ?g68
   case' g68 => refine' pa_c ab_ aa_
   case g66 => exact ak_ (i := 6) dB_.nd rfl cJ_
   case' g67 => refine' ad_ ?g71 ?g72
   case' g71 => refine' ai_ (i := 7) dB_.nd rfl iD_ ?g73
   case' g73 => refine' pe_op aN_ ?g74 ?g75
   case' g74 => refine' pe_op aN_ ?g76 ab_
   case' g76 => refine' pe_op aG_ ?g78 ?g79
   case' g78 => refine' aj_ C_Lcell_at (hr.mono (by decide)) dp_ ?g80
   case' g80 => refine' pa_c (pv1 0 rfl iz_) ?g82
   case' g82 => refine' pa_c ?g83 aa_
   case' g83 => refine' pe_op aN_ (pv1 1 rfl iA_) ?g86
   case' g86 => refine' pe_op aG_ (pv1 6 rfl cJ_) ab_
   case' g79 => refine' pe_op mz_ ab_ ab_
   case' g75 => refine' pe_op jJ_ (pv1 6 rfl cJ_) (pv1 6 rfl cJ_)
   case' g72 => refine' ae_ ?g93
   case' g93 => refine' ai_ (i := 5) dB_.nd rfl eG_ ?g94
   case' g94 => refine' pe_op aN_ ?g95 ?g96
   case' g95 => refine' pe_op jJ_ (pv1 5 rfl eG_) ab_
   case' g96 => refine' pe_op aG_ ?g99 ab_
   case' g99 => refine' pe_op aG_ ?g101 ?g102
   case' g101 => refine' pe_op jJ_ (pv1 7 rfl iD_) ?g104
   case' g104 => refine' pe_ix ao_ (pv1 2 rfl iB_) ?g106 (fun _ _ => rfl)
   case' g106 => refine' pe_op aG_ (pv1 6 rfl cJ_) ab_
   case' g102 => refine' pe_ix ao_ (pv1 3 rfl iC_) ?g110 (fun _ _ => rfl)
   case' g110 => refine' pe_op aG_ (pv1 6 rfl cJ_) ab_
   case' g64 => refine' ae_ ?g113
   case' g113 => refine' aq_ (pv1 5 rfl eG_)
  case R =>
   walk_at "rd"
   refine ⟨by decide, fun p hp => ⟨by decide, fun q hq => ?_⟩⟩
   generalize e1 : upd H p (HO.tup _) = H1 at hq ⊢
   have s1 : Same H H1 := e1 ▸ Same.new hp
   have p1 : H1 p = some (.tup _) := e1 ▸ ac_
   generalize e2 : upd H1 q (HO.tup _) = H2
   have s2 : Same H1 H2 := e2 ▸ Same.new hq
   have q2 : H2 q = some (.tup _) := e2 ▸ ac_
   have p2 := s2 _ _ p1
   have sS : Same H H2 := s1.trans s2
   clear e1 e2
   refine ⟨a, ns, j, rfl, sS.seq hS, hj, fun z => ?_⟩
   walk_at "rd"
   refine ⟨by decide, by decide, by decide, ?_⟩
   refine ite2 (fun _ => k _ _ sS) (fun _ => ⟨by decide, by decide, ?_⟩)
   refine bK_ (fun i σ H' => H' = H2 ∧ ∃ (b : Int) (v6 v7 : Option V), σ = [some (V.ref a), some (V.int j), some (V.ref p), some (V.ref q), some (V.int z), some (V.int b), v6, v7]) ⟨rfl, 0, none, none, rfl⟩ ?_ ?_
   ·rintro i σ H' hi ⟨rfl, b, v6, v7, rfl⟩
    have hi' : i < 60 := hi
    walk_at "rd"
    have m9 := Int.emod_nonneg (0 + (i : Int)) (show (9 : Int) ≠ 0 by decide)
    refine ⟨by decide, a, ns, _, rfl, sS.seq hS, by omega, fun y => ?_⟩
    walk_at "rd"
    refine ⟨by decide, by decide, by decide, by decide, .inl ⟨by omega, by omega⟩, .inr ⟨by decide, by decide⟩, by decide, ?_⟩
    have m8 := Int.emod_nonneg (0 + (i : Int)) (show (8 : Int) ≠ 0 by decide)
    have l8 := Int.emod_lt_of_pos (0 + (i : Int)) (show (0 : Int) < 8 by decide)
    obtain ⟨v, hv, v0, v1⟩ := by_at (a0 := 48271) (a1 := 69621) (a2 := 16807) (a3 := 39373) (a4 := 21401) (a5 := 60493) (a6 := 87721) (a7 := 31337) ((0 + (i : Int)) % 8) m8 l8 (fun v => 0 < v ∧ v < 100000) (by decide) (by decide) (by decide) (by decide) (by decide) (by decide) (by decide) (by decide)
    obtain ⟨u, hu, u0, u1⟩ := by_at (a0 := 99991) (a1 := 99989) (a2 := 99971) (a3 := 99961) (a4 := 99929) (a5 := 99923) (a6 := 99907) (a7 := 99901) ((0 + (i : Int)) % 8) m8 l8 (fun v => 0 < v ∧ v < 100000) (by decide) (by decide) (by decide) (by decide) (by decide) (by decide) (by decide) (by decide)
    simp only [p2, q2, Option.some.injEq, HO.tup.injEq, exists_eq_left']
    simp only [hv, hu]
    walk_at "rd"
    exact ⟨.inr ⟨by omega, by omega⟩, by decide, u0, by decide, _, rfl⟩
   ·rintro σ H' ⟨rfl, b, v6, v7, rfl⟩
    walk_at "rd"
    exact k _ _ sS
def dF (p : Int × Int) : Dt := .tup [.int p.1, .int p.2]
theorem bC_ {H : Hp} {v : V} {p : Int × Int} (h : Rep H v (dF p)) : ∃ q, v = .ref q ∧ H q = some (.tup [.int p.1, .int p.2]) := by
 obtain ⟨q, xs, e, hq, x, r, e1, hx, y, r', e2, hy, e3⟩ := h
 cases hx
 cases hy
 subst e1 e2 e3
 exact ⟨q, e, hq⟩
abbrev s_Llow : Stmt := stN 30
theorem jo_ : FnScope ["_law_top", "_law_bottom", "_law_one", "_law_other"] ["_law_top", "_law_bottom"] (defScope s_Llow) := ⟨rfl, rfl, rfl, by decide +kernel, rfl, by decide +kernel, by decide +kernel⟩
theorem iE_ : LK s_Llow "_law_top" .local := by decide +kernel
theorem iF_ : LK s_Llow "_law_bottom" .local := by decide +kernel
theorem dC_ : LK s_Llow "_law_one" .local := by decide +kernel
theorem dD_ : LK s_Llow "_law_other" .local := by decide +kernel
theorem jp_ : LK s_Llow "abs" .globalImplicit := by decide +kernel
def sp_low : Sp := fun vs H Q _ => ∃ t b : Int, vs = [.int t, .int b] ∧ 0 < b ∧ Builtin.Int.intBits b ≤ 8000 ∧ ∀ p H', Same H H' → Rep (newH H H') (.ref p) (dF (nf t b)) → Q (.ref p) H'
theorem nt_ (T : Txt K mg) (F : Fn0 K mg "_law_low" s_Llow) : Cal P w K mg base "_law_low" ["_law_top", "_law_bottom"] 1 sp_low := by
 refine aJ_ F jo_ (fun _ _ _ _ _ _ us hl => match us, hl with | [_, _], _ => rfl) ?len ?body
 case len => rintro vs H Q E ⟨a, b, rfl, _⟩; rfl
 case body =>
  intro f cdv A outer s H vs Q E hr h
  obtain ⟨a, b, rfl, hb, lb, k⟩ := h
  refine' ⟨_, ?D, ?R⟩
  case D =>
   refine' ad_ ?g1 ?g2
   case' g1 => refine' my_ (i := 2) (j := 3) rfl jo_.nd rfl rfl (by decide) dC_ dD_ ?g3 rfl
   case' g3 => refine' pa_c ?g4 ?g5
   case' g4 => refine' al_ hm_ jp_ T.n_abs k4_ ?g6
   case' g6 => refine' pa_c (pv1 0 rfl iE_) aa_
   case' g5 => refine' pa_c (pv1 1 rfl iF_) aa_
   case' g2 => refine' ad_ ?g11 ?g12
   case' g11 => refine' ew_ PassesOwn.never ?g13 ?g14
   case' g13 => refine' az_ op_gt (pv1 3 rfl dD_) ab_ (nomark _)
   case' g14 => refine' ae_ ?g17
   case' g17 => refine' my_ (i := 2) (j := 3) rfl jo_.nd rfl rfl (by decide) dC_ dD_ ?g18 rfl
   case' g18 => refine' pa_c (pv1 3 rfl dD_) ?g20
   case' g20 => refine' pa_c ?g21 aa_
   case' g21 => refine' pe_op aG_ (pv1 2 rfl dC_) (pv1 3 rfl dD_)
   case' g12 => refine' ae_ ?g25
   case' g25 => refine' aq_ ?g26
   case' g26 => refine' aH_ ?g27
   case' g27 => refine' pa_c ?g28 ?g29
   case' g28 => refine' pe_op au_ (pv1 0 rfl iE_) (pv1 2 rfl dC_)
   case' g29 => refine' pa_c ?g32 aa_
   case' g32 => refine' pe_op au_ (pv1 1 rfl iF_) (pv1 2 rfl dC_)
  case R =>
   walk_at "rd"
   refine f1_ (fun σ H1 => ∃ (x y : Int), σ = [some (.int a), some (.int b), some (.int x), some (.int y)] ∧ H1 = H ∧ 0 ≤ x ∧ 0 ≤ y ∧ Int.gcd x y = Int.gcd a b)
    (fun σ _ => match σ with | [_, _, _, some (.int y)] => y.toNat | _ => 0) ?_ ?_
   ·refine ⟨_, _, rfl, rfl, ?_, by omega, ?_⟩
    ·split <;> omega
    ·split
     ·rw [Int.neg_gcd]
     ·rfl
   ·rintro σ H1 ⟨x, y, rfl, rfl, hx, hy, e⟩
    walk_at "rd"
    refine ite2 (fun hne => ?_) (fun he => ?_)
    ·refine ⟨_, N_ok, ?_⟩
     walk_at "rd"
     have h1 := Int.emod_nonneg x (show y ≠ 0 by omega)
     have h2 := Int.emod_lt_of_pos x hne
     exact ⟨hne, hy, h1, (j5_ hx hne).trans e, by omega⟩
    ·have hy0 : y = 0 := by omega
     have hx' : x = (Int.gcd a b : Nat) := by
      rw [← e, hy0, Int.gcd_zero_right]; omega
     have g0 := gpos (t := a) (b := b) (by omega)
     have hl := mN_ (g := (Int.gcd a b : Int)) (b := b) (by omega) (Nat.le_of_dvd (by omega) (Int.natAbs_dvd_natAbs.mpr (Int.gcd_dvd_right ..))) lb
     subst hx'
     refine ⟨g0, hl, g0, hl, by decide, fun p hp => k p _ (Same.new hp) ⟨p, _, rfl, ?_, _, _, rfl, rfl, _, _, rfl, rfl, rfl⟩⟩
     rw [bZ_ hp, ac_, jS_ hb]
abbrev s_Lworth_of : Stmt := stN 31
theorem a3_ : FnScope ["_law_big_here", "_law_bottom", "_law_top"] ["_law_big_here"] (defScope s_Lworth_of) := ⟨rfl, rfl, rfl, by decide +kernel, rfl, by decide +kernel, by decide +kernel⟩
theorem ar_ : LK s_Lworth_of "_law_big_here" .local := by decide +kernel
theorem bN_ : LK s_Lworth_of "_law_bottom" .local := by decide +kernel
theorem bO_ : LK s_Lworth_of "_law_top" .local := by decide +kernel
theorem fa_ : LK s_Lworth_of "_law_low" .globalImplicit := by decide +kernel
def sp_worth : Sp := fun vs H Q _ => ∃ z : Int, vs = [.int z] ∧ ∀ (p q : Addr) H' (t b y : Int), Same H H' → H p = none → H q = none → Ws (nf t b) → H' p = some (.tup [.ref q, .int y]) → H' q = some (.tup [.int (nf t b).1, .int (nf t b).2]) → Q (.ref p) H'
theorem iG_ (T : Txt K mg) (F : Fn0 K mg "_law_worth_of" s_Lworth_of) (C_Llow : Cal P w K mg base "_law_low" ["_law_top", "_law_bottom"] 1 sp_low) : Cal P w K mg base "_law_worth_of" ["_law_big_here"] 2 sp_worth := by
 refine aJ_ F a3_ (fun _ _ _ _ _ _ us hl => match us, hl with | [_], _ => rfl) ?len ?body
 case len => rintro vs H Q E ⟨a, rfl, _⟩; rfl
 case body =>
  intro f cdv A outer s H vs Q E hr h
  obtain ⟨z, rfl, k⟩ := h
  refine' ⟨_, ?D, ?R⟩
  case D =>
   refine' ad_ ?g1 ?g2
   case' g1 => refine' ai_ (i := 1) a3_.nd rfl bN_ ?g3
   case' g3 => refine' pe_op aN_ ab_ ?g5
   case' g5 => refine' pe_op aG_ (pv1 0 rfl ar_) ab_
   case' g2 => refine' ad_ ?g8 ?g9
   case' g8 => refine' g0_ ?g10
   case' g10 => refine' ps_if ?g11 ?g12 aL_
   case' g11 => refine' az_ op_eq ?g14 ab_ (nomark _)
   case' g14 => refine' pe_op aG_ ?g16 ab_
   case' g16 => refine' pe_op au_ (pv1 0 rfl ar_) ab_
   case' g12 => refine' ae_ ?g20
   case' g20 => refine' ai_ (i := 1) a3_.nd rfl bN_ ?g21
   case' g21 => refine' pe_op aN_ ab_ ?g23
   case' g23 => refine' pe_op aG_ ?g24 ab_
   case' g24 => refine' pe_op au_ (pv1 0 rfl ar_) ab_
   case' g9 => refine' ad_ ?g28 ?g29
   case' g28 => refine' g0_ ?g30
   case' g30 => refine' ps_if ?g31 ?g32 aL_
   case' g31 => refine' az_ op_eq ?g34 ab_ (nomark _)
   case' g34 => refine' pe_op aG_ ?g36 ab_
   case' g36 => refine' pe_op au_ (pv1 0 rfl ar_) ab_
   case' g32 => refine' ae_ ?g40
   case' g40 => refine' ai_ (i := 1) a3_.nd rfl bN_ ?g41
   case' g41 => refine' pe_op aN_ ab_ ?g43
   case' g43 => refine' pe_op aG_ ?g44 ab_
   case' g44 => refine' pe_op au_ (pv1 0 rfl ar_) ab_
   case' g29 => refine' ad_ ?g48 ?g49
   case' g48 => refine' ai_ (i := 0) a3_.nd rfl ar_ ?g50
   case' g50 => refine' pe_op au_ (pv1 0 rfl ar_) ab_
   case' g49 => refine' ad_ ?g53 ?g54
   case' g53 => refine' ai_ (i := 2) a3_.nd rfl bO_ ?g55
   case' g55 => refine' pe_op aN_ ab_ ?g57
   case' g57 => refine' pe_op aG_ (pv1 0 rfl ar_) ab_
   case' g54 => refine' ad_ ?g60 ?g61
   case' g60 => refine' g0_ ?g62
   case' g62 => refine' ps_if ?g63 ?g64 aL_
   case' g63 => refine' az_ op_eq ?g66 ab_ (nomark _)
   case' g66 => refine' pe_op aG_ ?g68 ab_
   case' g68 => refine' pe_op au_ (pv1 0 rfl ar_) ab_
   case' g64 => refine' ae_ ?g72
   case' g72 => refine' ai_ (i := 2) a3_.nd rfl bO_ ?g73
   case' g73 => refine' pe_op aN_ ab_ ?g75
   case' g75 => refine' pe_op aG_ ?g76 ab_
   case' g76 => refine' pe_op au_ (pv1 0 rfl ar_) ab_
   case' g61 => refine' ad_ ?g80 ?g81
   case' g80 => refine' g0_ ?g82
   case' g82 => refine' ps_if ?g83 ?g84 aL_
   case' g83 => refine' az_ op_eq ?g86 ab_ (nomark _)
   case' g86 => refine' pe_op aG_ ?g88 ab_
   case' g88 => refine' pe_op au_ (pv1 0 rfl ar_) ab_
   case' g84 => refine' ae_ ?g92
   case' g92 => refine' ai_ (i := 2) a3_.nd rfl bO_ ?g93
   case' g93 => refine' pe_op aN_ ab_ ?g95
   case' g95 => refine' pe_op aG_ ?g96 ab_
   case' g96 => refine' pe_op au_ (pv1 0 rfl ar_) ab_
   case' g81 => refine' ae_ ?g100
   case' g100 => refine' aq_ ?g101
   case' g101 => refine' aH_ ?g102
   case' g102 => refine' pa_c ?g103 ?g104
   case' g103 => refine' aj_ C_Llow (hr.mono (by decide)) fa_ ?g105
   case' g105 => refine' pa_c (pv1 2 rfl bO_) ?g107
   case' g107 => refine' pa_c (pv1 1 rfl bN_) aa_
   case' g104 => refine' pa_c ?g110 aa_
   case' g110 => refine' pe_op au_ (pv1 0 rfl ar_) ab_
  case R =>
   walk_at "rd"
   refine ⟨by decide, fun σ H1 => ∃ b : Int, σ = [some (.int z), some (.int b), none] ∧ H = H1 ∧ 0 < b ∧ b ≤ 1000, ?_, ?_⟩
   ·walk_at "rd"
    refine ⟨by decide, by decide, by decide, ite2 (fun _ => ?_) (fun _ => ?_)⟩
    ·have := Int.emod_nonneg (z / 12) (show (12 : Int) ≠ 0 by decide)
     have := Int.emod_lt_of_pos (z / 12) (show (0 : Int) < 12 by decide)
     exact ⟨by decide, by decide, by decide, by omega, by omega⟩
    ·have := Int.emod_nonneg z (show (3 : Int) ≠ 0 by decide)
     have := Int.emod_lt_of_pos z (show (0 : Int) < 3 by decide)
     omega
   rintro σ H1 ⟨b, rfl, rfl, b0, b1⟩
   walk_at "rd"
   refine ⟨fun σ H1 => ∃ b : Int, σ = [some (.int z), some (.int b), none] ∧ H = H1 ∧ 0 < b ∧ b ≤ 1000, ?_, ?_⟩
   ·walk_at "rd"
    refine ⟨by decide, by decide, by decide, ite2 (fun _ => ?_) (fun _ => ⟨b0, b1⟩)⟩
    have := Int.emod_nonneg (z / 48) (show (1000 : Int) ≠ 0 by decide)
    have := Int.emod_lt_of_pos (z / 48) (show (0 : Int) < 1000 by decide)
    exact ⟨by decide, by decide, by decide, by omega, by omega⟩
   clear b0 b1 b
   rintro σ H1 ⟨b, rfl, rfl, b0, b1⟩
   walk_at "rd"
   refine ⟨by decide, by decide, by decide, ?_⟩
   generalize z / 48000 = y
   refine ⟨fun σ H1 => ∃ t : Int, σ = [some (.int y), some (.int b), some (.int t)] ∧ H = H1 ∧ 0 < t ∧ t ≤ 1000, ?_, ?_⟩
   ·walk_at "rd"
    refine ⟨by decide, by decide, by decide, ite2 (fun _ => ?_) (fun _ => ?_)⟩
    ·have := Int.emod_nonneg (y / 20) (show (12 : Int) ≠ 0 by decide)
     have := Int.emod_lt_of_pos (y / 20) (show (0 : Int) < 12 by decide)
     exact ⟨by decide, by decide, by decide, by omega, by omega⟩
    ·have := Int.emod_nonneg y (show (5 : Int) ≠ 0 by decide)
     have := Int.emod_lt_of_pos y (show (0 : Int) < 5 by decide)
     omega
   rintro σ H1 ⟨t, rfl, rfl, t0, t1⟩
   walk_at "rd"
   refine ⟨fun σ H1 => ∃ t : Int, σ = [some (.int y), some (.int b), some (.int t)] ∧ H = H1 ∧ 0 < t ∧ t ≤ 1000, ?_, ?_⟩
   ·walk_at "rd"
    refine ⟨by decide, by decide, by decide, ite2 (fun _ => ?_) (fun _ => ⟨t0, t1⟩)⟩
    have := Int.emod_nonneg (y / 80) (show (1000 : Int) ≠ 0 by decide)
    have := Int.emod_lt_of_pos (y / 80) (show (0 : Int) < 1000 by decide)
    exact ⟨by decide, by decide, by decide, by omega, by omega⟩
   clear t0 t1 t
   rintro σ H1 ⟨t, rfl, rfl, t0, t1⟩
   walk_at "rd"
   refine ⟨t, b, rfl, b0, PyProof.Rows.bits_of_natAbs_le (b := 1000) (by omega) (by decide), fun q H1 s1 r1 => ?_⟩
   walk_at "rd"
   obtain ⟨q', eq, hq⟩ := bC_ r1
   cases eq
   obtain ⟨q0, q1⟩ := aP_ hq
   refine ⟨by decide, by decide, by decide, fun p hp => k p q _ t b (y / 80000) (s1.trans (Same.new hp)) (s1.free hp) q0 (ws_nf t0 t1 b0 b1) ac_ (Same.new hp _ _ q1)⟩
open PySem PySem.Spec PyProof.Rows L2 RimM RimT
theorem un1 {n c : Nat} (h : n + 64 < c) : n + 1 < c := by omega
structure Tg {α : Type} (lab : α → V) (H : Hp) (l : Addr) (as_ : List Addr) (T : List (List α)) : Prop where
 top : H l = some (.lst (as_.map V.ref))
 len : as_.length = T.length
 row : ∀ p a, as_[p]? = some a → H a = some (.lst ((T.getD p []).map lab))
theorem Tg.mono {α : Type} {lab : α → V} {H H' : Hp} {l : Addr} {as_ : List Addr} {T : List (List α)} (h : Tg lab H l as_ T) (s : Same H H') : Tg lab H' l as_ T := ⟨s _ _ h.top, h.len, fun p a e => s _ _ (h.row p a e)⟩
theorem Tg.at_ {α : Type} {lab : α → V} {H : Hp} {l : Addr} {as_ : List Addr} {T : List (List α)} (h : Tg lab H l as_ T) {p : Nat} (hp : p < T.length) : ∃ a, as_[p]? = some a ∧ atI (as_.map V.ref) (p : Int) = some (.ref a) ∧ H a = some (.lst ((T.getD p []).map lab)) := by
 have e : as_[p]? = some (as_[p]'(by rw [h.len]; exact hp)) := List.getElem?_eq_getElem _
 refine ⟨_, e, ?_, h.row p _ e⟩
 rw [b8_ (by omega) (by rw [Int.toNat_natCast, List.getElem?_map, e]; rfl)]
abbrev Tn := Tg (fun n : Nat => V.int n)
def cV (c : Nat × Nat) : HO := .tup [.int c.1, .int c.2]
def cK (c : Nat × Nat) : List Key := [.inl c.1, .inl c.2]
def MatesAt {α : Type} (H : Hp) (m : Addr) (T : List (List α)) : Prop := ∃ kvs, H m = some (.dT kvs) ∧ ∀ a b, Mate T a b → ∃ q, valV kvs (cK a) = some (.ref q) ∧ H q = some (cV b)
theorem MatesAt.mono {α : Type} {H H' : Hp} {m : Addr} {T : List (List α)} (h : MatesAt H m T) (s : Same H H') : MatesAt H' m T := by
 obtain ⟨kvs, e, k⟩ := h
 exact ⟨kvs, s _ _ e, fun a b hab => (k a b hab).elim fun q hq => ⟨q, hq.1, s _ _ hq.2⟩⟩
abbrev s_Lcorner_behind : Stmt := stN 34
theorem a0_ : FnScope ["_law_turns", "_law_posts", "_law_mates_here", "_law_corner", "_law_p", "_law_k", "_law_q", "_law_j"] ["_law_turns", "_law_posts", "_law_mates_here", "_law_corner"] (defScope s_Lcorner_behind) := ⟨rfl, rfl, rfl, by decide +kernel, rfl, by decide +kernel, by decide +kernel⟩
theorem b9_ : LK s_Lcorner_behind "_law_turns" .local := by decide +kernel
theorem ca_ : LK s_Lcorner_behind "_law_posts" .local := by decide +kernel
theorem ec_ : LK s_Lcorner_behind "_law_mates_here" .local := by decide +kernel
theorem ed_ : LK s_Lcorner_behind "_law_corner" .local := by decide +kernel
theorem a4_ : LK s_Lcorner_behind "_law_p" .local := by decide +kernel
theorem bo_ : LK s_Lcorner_behind "_law_k" .local := by decide +kernel
theorem aT_ : LK s_Lcorner_behind "_law_q" .local := by decide +kernel
theorem bp_ : LK s_Lcorner_behind "_law_j" .local := by decide +kernel
theorem bT_ : LK s_Lcorner_behind "len" .globalImplicit := by decide +kernel
def sp_behind : Sp := fun vs H Q _ => ∃ (α : Type) (_ : DecidableEq α) (lab : α → V) (l m c : Addr) (as_ : List Addr) (T : List (List α)) (P : Nat) (e : Nat × Nat), vs = [.ref l, .int P, .ref m, .ref c] ∧ Tg lab H l as_ T ∧ MatesAt H m T ∧ Tw T ∧ 0 < P ∧ H c = some (cV e) ∧ IsC T P e ∧
 ∀ q H' d, Same H H' → H q = none → H' q = some (cV d) → Nx T P e d → Q (.ref q) H'
theorem fb_ (T : Txt K mg) (F : Fn0 K mg "_law_corner_behind" s_Lcorner_behind) : Cal P w K mg base "_law_corner_behind" ["_law_turns", "_law_posts", "_law_mates_here", "_law_corner"] 1 sp_behind := by
 refine aJ_ F a0_ (fun _ _ _ _ _ _ us hl => match us, hl with | [_, _, _, _], _ => rfl) ?len ?body
 case len => rintro vs H Q E ⟨_, _, _, l, m, c, as_, T, P, e, rfl, _⟩; rfl
 case body =>
  intro f cdv A outer s H vs Q E hr h
  obtain ⟨α, dec, lab, l, m, c, as_, Tt, Pp, e, rfl, hT, hm, tw, P0, hc, ic, k⟩ := h
  refine' ⟨_, ?D, ?R⟩
  case D =>
   refine' ad_ ?g1 ?g2
   case' g1 => refine' dw_ (pv1 3 rfl ed_) ?g4
   case' g4 => refine' bc_ (K := K) (n := 2) rfl rfl ?g5
   case' g5 => refine' ap_ ?g6 ?g7
   case g6 => exact ak_ (i := 4) a0_.nd rfl a4_
   case' g7 => refine' ap_ ?g8 ba_
   case g8 => exact ak_ (i := 5) a0_.nd rfl bo_
   case' g2 => refine' ad_ ?g10 ?g11
   case' g10 => refine' ps_if ?g12 ?g13 aL_
   case' g12 => refine' az_ op_eq (pv1 5 rfl bo_) ?g16 (nomark _)
   case' g16 => refine' al_ am_ bT_ T.n_len aQ_ ?g17
   case' g17 => refine' pa_c ?g18 aa_
   case' g18 => refine' pe_ix ah_ (pv1 0 rfl b9_) (pv1 4 rfl a4_) (fun _ _ => rfl)
   case' g13 => refine' ae_ ?g22
   case' g22 => refine' aq_ ?g23
   case' g23 => refine' aH_ ?g24
   case' g24 => refine' pa_c ?g25 ?g26
   case' g25 => refine' pe_op aG_ ?g27 (pv1 1 rfl ca_)
   case' g27 => refine' pe_op kS_ (pv1 4 rfl a4_) ab_
   case' g26 => refine' pa_c ab_ aa_
   case' g11 => refine' ad_ ?g33 ?g34
   case' g33 => refine' dw_ ?g35 ?g36
   case' g35 => refine' ea_ (un1 hr.units) (pv1 2 rfl ec_) ?g38 (fun _ _ => rfl)
   case' g38 => refine' aH_ ?g39
   case' g39 => refine' pa_c (pv1 4 rfl a4_) ?g41
   case' g41 => refine' pa_c (pv1 5 rfl bo_) aa_
   case' g36 => refine' bc_ (K := K) (n := 2) rfl rfl ?g44
   case' g44 => refine' ap_ ?g45 ?g46
   case g45 => exact ak_ (i := 6) a0_.nd rfl aT_
   case' g46 => refine' ap_ ?g47 ba_
   case g47 => exact ak_ (i := 7) a0_.nd rfl bp_
   case' g34 => refine' ad_ ?g49 ?g50
   case' g49 => refine' ps_if ?g51 ?g52 aL_
   case' g51 => refine' az_ op_lt (pv1 6 rfl aT_) (pv1 1 rfl ca_) (nomark _)
   case' g52 => refine' ae_ ?g56
   case' g56 => refine' aq_ ?g57
   case' g57 => refine' aH_ ?g58
   case' g58 => refine' pa_c (pv1 6 rfl aT_) ?g60
   case' g60 => refine' pa_c ?g61 aa_
   case' g61 => refine' pe_op aN_ (pv1 7 rfl bp_) ab_
   case' g50 => refine' ae_ ?g65
   case' g65 => refine' aq_ ?g66
   case' g66 => refine' aH_ ?g67
   case' g67 => refine' pa_c (pv1 6 rfl aT_) ?g69
   case' g69 => refine' pa_c ?g70 aa_
   case' g70 => refine' pe_op aG_ ?g72 ?g73
   case' g72 => refine' pe_op aN_ (pv1 7 rfl bp_) ab_
   case' g73 => refine' al_ am_ bT_ T.n_len aQ_ ?g76
   case' g76 => refine' pa_c ?g77 aa_
   case' g77 => refine' pe_ix ah_ (pv1 0 rfl b9_) (pv1 6 rfl aT_) (fun _ _ => rfl)
  case R =>
   walk_at "rd"
   obtain ⟨a, ea, at0, ra⟩ := hT.at_ ic.1
   refine ⟨_, SqT.of hc, rfl, _, _, rfl, _, _, rfl, rfl, _, _, rfl, hT.top, _, at0, _, rfl, _, .inl ra, ?_⟩
   walk_at "rd"
   rw [List.length_map]
   refine ite2 (fun he => ?_) (fun he => ?_)
   ·have hz : ((e.1 : Int) - 1) % (Pp : Int) = (((e.1 + Pp - 1) % Pp : Nat) : Int) := by
     rw [Int.natCast_emod, show ((e.1 + Pp - 1 : Nat) : Int) = (e.1 : Int) - 1 + Pp by omega]
     simp
    have he' : e.2 = rl Tt e.1 := by unfold rl; omega
    refine ⟨by omega, by decide, fun p hp => k p _ ((e.1 + Pp - 1) % Pp, 0) (Same.new hp) hp ?_ (.inl ⟨he', rfl⟩)⟩
    rw [ac_, hz]
    rfl
   ·have hlt : e.2 < rl Tt e.1 := by
     have := ic.2
     unfold rl at this ⊢
     split at this <;> omega
    obtain ⟨ww, hw⟩ := ne_ hlt
    obtain ⟨b, hb⟩ := nd_ tw hw
    obtain ⟨kvs, hkv, hall⟩ := hm
    obtain ⟨q, vq, hq⟩ := hall e b hb
    refine ⟨by decide, fun p hp => ?_⟩
    have s1 : Same H (upd H p (.tup [.int e.1, .int e.2])) := Same.new hp
    generalize e1 : upd H p (.tup [.int e.1, .int e.2]) = H1 at s1 ⊢
    have hp1 : H1 p = some (cV e) := e1 ▸ ac_
    have g : DGet H1 m (.ref p) (some (.ref q)) := vq ▸ DGet.t (k := cK e) (s1 _ _ hkv) hp1
    have hT1 := hT.mono s1
    have hbl := wi_lt hb.2.choose_spec.2
    refine ⟨_, g, _, rfl, _, SqT.of (s1 _ _ hq), rfl, _, _, rfl, _, _, rfl, rfl, _, rfl, ?_⟩
    refine ite2 (fun hlp => ?_) (fun hlp => ?_)
    ·refine ⟨_, rfl, by decide, fun r hr => k r _ (b.1, b.2 + 1) (s1.trans (Same.new hr)) (s1.free hr) ?_ (.inr ⟨hlt, b, hb, ?_⟩)⟩
     ·rw [ac_]
      rfl
     ·rw [if_pos (by omega)]
    ·obtain ⟨a2, ea2, at2, ra2⟩ := hT1.at_ hbl.2
     have hl2 : (0 : Int) < (rl Tt b.1 : Nat) := by omega
     refine ⟨_, rfl, _, _, rfl, hT1.top, _, at2, _, rfl, _, .inl ra2, ?_⟩
     rw [List.length_map]
     refine ⟨hl2, by decide, fun r hr => k r _ (b.1, (b.2 + 1) % rl Tt b.1) (s1.trans (Same.new hr)) (s1.free hr) ?_ (.inr ⟨hlt, b, hb, ?_⟩)⟩
     ·rw [ac_]
      show some (HO.tup [V.int b.1, V.int (((b.2 : Int) + 1) % (rl Tt b.1 : Nat))]) = some (HO.tup [V.int b.1, V.int (((b.2 + 1) % rl Tt b.1 : Nat) : Int)])
      rw [Int.natCast_emod, Int.natCast_add]
      rfl
     ·rw [if_neg (by omega)]
def Cs (H : Hp) : List Addr → List (Nat × Nat) → Prop
 | [], [] => True
 | x :: xs, c :: cs => H x = some (cV c) ∧ Cs H xs cs
 | _, _ => False
theorem Cs.mono {H H' : Hp} (s : Same H H') : ∀ {xs : List Addr} {cs : List (Nat × Nat)}, Cs H xs cs → Cs H' xs cs
 | [], [], _ => trivial
 | x :: xs, c :: cs, h => ⟨s _ _ h.1, Cs.mono s h.2⟩
theorem Cs.len {H : Hp} : ∀ {xs : List Addr} {cs : List (Nat × Nat)}, Cs H xs cs → xs.length = cs.length
 | [], [], _ => rfl
 | x :: xs, c :: cs, h => by rw [List.length_cons, List.length_cons, Cs.len h.2]
theorem Cs.snoc {H : Hp} {y : Addr} {d : Nat × Nat} (hy : H y = some (cV d)) : ∀ {xs : List Addr} {cs : List (Nat × Nat)}, Cs H xs cs → Cs H (xs ++ [y]) (cs ++ [d])
 | [], [], _ => ⟨hy, trivial⟩
 | x :: xs, c :: cs, h => ⟨h.1, Cs.snoc hy h.2⟩
theorem Cs.get {H : Hp} : ∀ {xs : List Addr} {cs : List (Nat × Nat)} {i : Nat} {d : Nat × Nat}, Cs H xs cs → cs[i]? = some d → ∃ x, xs[i]? = some x ∧ H x = some (cV d)
 | [], [], i, d, h, e => by cases e
 | [], _ :: _, _, _, h, _ => h.elim
 | _ :: _, [], _, _, h, _ => h.elim
 | x :: xs, c :: cs, 0, d, h, e => by cases e; exact ⟨x, rfl, h.1⟩
 | x :: xs, c :: cs, i + 1, d, h, e => Cs.get (i := i) h.2 e
def dC (c : Nat × Nat) : Dt := .tup [.int c.1, .int c.2]
theorem lr_ {H : Hp} {x : Addr} {c : Nat × Nat} (h : H x = some (cV c)) : Rep H (.ref x) (dC c) := ⟨x, _, rfl, h, _, _, rfl, rfl, _, _, rfl, rfl, rfl⟩
theorem oh_ (a b : Nat × Nat) : deq (dC a) (dC b) = some (decide (a = b)) := by
 by_cases h1 : (a.1 : Int) = b.1 <;> by_cases h2 : (a.2 : Int) = b.2
 ·have e : a = b := Prod.ext (by omega) (by omega)
  subst e
  simp [dC, deq, deqs]
 ·have e : a ≠ b := fun z => h2 (by rw [z])
  simp [dC, deq, deqs, h1, h2, e]
 ·have e : a ≠ b := fun z => h1 (by rw [z])
  simp [dC, deq, deqs, h1, h2, e]
 ·have e : a ≠ b := fun z => h1 (by rw [z])
  simp [dC, deq, deqs, h1, h2, e]
abbrev s_Lregion : Stmt := stN 35
theorem dU_ : FnScope ["_law_turns", "_law_posts", "_law_mates_here", "_law_corner", "_law_found", "_law_here"] ["_law_turns", "_law_posts", "_law_mates_here", "_law_corner"] (defScope s_Lregion) := ⟨rfl, rfl, rfl, by decide +kernel, rfl, by decide +kernel, by decide +kernel⟩
theorem fx_ : LK s_Lregion "_law_turns" .local := by decide +kernel
theorem fy_ : LK s_Lregion "_law_posts" .local := by decide +kernel
theorem fz_ : LK s_Lregion "_law_mates_here" .local := by decide +kernel
theorem dE_ : LK s_Lregion "_law_corner" .local := by decide +kernel
theorem dF_ : LK s_Lregion "_law_found" .local := by decide +kernel
theorem bU_ : LK s_Lregion "_law_here" .local := by decide +kernel
theorem bj_ : LK s_Lregion "_law_corner_behind" .globalImplicit := by decide +kernel
def sp_region : Sp := fun vs H Q _ => ∃ (α : Type) (_ : DecidableEq α) (lab : α → V) (l m c : Addr) (as_ : List Addr) (T : List (List α)) (P : Nat) (e : Nat × Nat), vs = [.ref l, .int P, .ref m, .ref c] ∧ Tg lab H l as_ T ∧ MatesAt H m T ∧ Tw T ∧ 0 < P ∧ P ≤ T.length ∧ H c = some (cV e) ∧ IsC T P e ∧ (corners T P).length ≤ 900 ∧
 ∀ R H' xs cs, Same H H' → H R = none → H' R = some (.lst (xs.map V.ref)) → Cs H' xs cs → cs ≠ [] → cs.length ≤ (corners T P).length → (∀ d ∈ cs, IsC T P d) → Way T P cs e → cs.head? = some e → cs.Nodup → Q (.ref R) H'
theorem kD_ (T : Txt K mg) (F : Fn0 K mg "_law_region" s_Lregion) (C_Lcorner_behind : Cal P w K mg base "_law_corner_behind" ["_law_turns", "_law_posts", "_law_mates_here", "_law_corner"] 1 sp_behind) : Cal P w K mg base "_law_region" ["_law_turns", "_law_posts", "_law_mates_here", "_law_corner"] 2 sp_region := by
 refine aJ_ F dU_ (fun _ _ _ _ _ _ us hl => match us, hl with | [_, _, _, _], _ => rfl) ?len ?body
 case len => rintro vs H Q E ⟨_, _, _, l, m, c, as_, T, P, e, rfl, _⟩; rfl
 case body =>
  intro f cdv A outer s H vs Q E hr h
  obtain ⟨α, dec, lab, l, m, c, as_, Tt, Pp, e, rfl, hT, hm, tw, P0, PT, hc, ic, c9, k⟩ := h
  refine' ⟨_, ?D, ?R⟩
  case D =>
   refine' ad_ ?g1 ?g2
   case' g1 => refine' ai_ (i := 4) dU_.nd rfl dF_ ?g3
   case' g3 => refine' cG_ ?g4
   case' g4 => refine' pa_c (pv1 3 rfl dE_) aa_
   case' g2 => refine' ad_ ?g7 ?g8
   case' g7 => refine' ai_ (i := 5) dU_.nd rfl bU_ ?g9
   case' g9 => refine' aj_ C_Lcorner_behind (hr.mono (by decide)) bj_ ?g10
   case' g10 => refine' pa_c (pv1 0 rfl fx_) ?g12
   case' g12 => refine' pa_c (pv1 1 rfl fy_) ?g14
   case' g14 => refine' pa_c (pv1 2 rfl fz_) ?g16
   case' g16 => refine' pa_c (pv1 3 rfl dE_) aa_
   case' g8 => refine' ad_ ?g19 ?g20
   case' g19 => refine' ew_ PassesOwn.never ?g21 ?g22
   case' g21 => refine' az_ (ih_ (hr.units)) (pv1 5 rfl bU_) (pv1 3 rfl dE_) (nomark _)
   case' g22 => refine' ad_ ?g25 ?g26
   case' g25 => refine' bv_ ?g27
   case' g27 => refine' pe_bm PySem.F.plainAttrs_list PySem.F.slot_list_append PySem.F.type_list_append bi_ (pv1 4 rfl dF_) ?g29
   case' g29 => refine' pa_c (pv1 5 rfl bU_) aa_
   case' g26 => refine' ae_ ?g32
   case' g32 => refine' ai_ (i := 5) dU_.nd rfl bU_ ?g33
   case' g33 => refine' aj_ C_Lcorner_behind (hr.mono (by decide)) bj_ ?g34
   case' g34 => refine' pa_c (pv1 0 rfl fx_) ?g36
   case' g36 => refine' pa_c (pv1 1 rfl fy_) ?g38
   case' g38 => refine' pa_c (pv1 2 rfl fz_) ?g40
   case' g40 => refine' pa_c (pv1 5 rfl bU_) aa_
   case' g20 => refine' ae_ ?g43
   case' g43 => refine' aq_ (pv1 4 rfl dF_)
  case R =>
   walk_at "rd"
   refine ⟨by decide, fun R hR => ?_⟩
   have s0 : Same H (upd H R (.lst [.ref c])) := Same.new hR
   refine ⟨_, _, _, l, m, c, as_, Tt, Pp, e, rfl, hT.mono s0, hm.mono s0, tw, P0, s0 _ _ hc, ic, fun q H1 d s1 hq hd nx => ?_⟩
   walk_at "rd"
   refine f1_ (fun σ H' => ∃ (S : Hp) (xs : List Addr) (cs : List (Nat × Nat)) (h : Addr) (d : Nat × Nat), σ = [some (.ref l), some (.int Pp), some (.ref m), some (.ref c), some (.ref R), some (.ref h)] ∧ Same H S ∧ S R = none ∧ Same S H' ∧ H' R = some (.lst (xs.map V.ref)) ∧ Cs S xs cs ∧ S h = some (cV d) ∧ Way Tt Pp cs d ∧ cs.head? = some e ∧ cs.Nodup)
    (fun σ H' => match H' R with | some (.lst xs) => (corners Tt Pp).length + 1 - xs.length | _ => 0) ?_ ?_
   ·have h0R : upd H R (.lst [.ref c]) R = some (.lst [.ref c]) := ac_
    exact ⟨grow H (upd H R (.lst [.ref c])) H1, [c], [e], q, d, rfl, bS_ s0, by rw [cZ_ h0R]; exact hR, ga_ s0 s1, s1 _ _ h0R, ⟨bS_ s0 _ _ hc, trivial⟩, by rw [f9_ hq]; exact hd, .one nx, rfl, by simp⟩
   ·rintro σ H' ⟨S, xs, cs, h, d, rfl, hS, SR, SH, hxs, hcs, hh, wy, hd0, nd⟩
    walk_at "rd"
    have wl := nh_ tw P0 PT wy hd0 ic nd
    have wa := hB_ tw P0 PT wy hd0 ic
    have xl := hcs.len
    refine ⟨_, lr_ (SH _ _ hh), _, lr_ (SH _ _ (hS _ _ hc)), _, oh_ d e, by simp [dC, dep, deps], ?_⟩
    by_cases hde : d = e
    ·rw [if_neg (by simp [hde])]
     exact k R H' xs cs (hS.trans SH) hR hxs (hcs.mono SH) (jV_ wy) wl wa.2.1 (hde ▸ wy) hd0 nd
    ·rw [if_pos (by simp [hde])]
     refine ⟨_, N_ok, ?_⟩
     walk_at "rd"
     have sz : (xs.map V.ref).length < sizeLine := by
      have := small1000 (show xs.length + 1 ≤ 1000 by omega)
      rw [List.length_map]
      omega
     have dn := ng_ tw P0 PT wy hd0 ic nd hde
     refine ⟨.inl ⟨_, SqL.of hxs⟩, _, hxs, sz, ?_⟩
     have SH2 : Same S (upd H' R (.lst (xs.map V.ref ++ [.ref h]))) := bM_ SH SR
     have e2 : upd H' R (.lst (xs.map V.ref ++ [.ref h])) R = some (.lst (xs.map V.ref ++ [.ref h])) := ac_
     generalize upd H' R (.lst (xs.map V.ref ++ [.ref h])) = H2 at SH2 e2 ⊢
     refine ⟨_, _, _, l, m, h, as_, Tt, Pp, d, rfl, (hT.mono hS).mono SH2, (hm.mono hS).mono SH2, tw, P0, SH2 _ _ hh, wa.1, fun q2 H3 d2 s3 hq2 hd2 nx2 => ⟨⟨grow S H2 H3, xs ++ [h], cs ++ [d], q2, rfl, hS.trans (bS_ SH2), ?_, ga_ SH2 s3, ?_, ?_, d2, ?_, .more wy nx2, ?_, ?_⟩, ?_⟩⟩
     ·rw [cZ_ e2]; exact SR
     ·rw [List.map_append]; exact s3 _ _ e2
     ·exact Cs.snoc (bS_ SH2 _ _ hh) (hcs.mono (bS_ SH2))
     ·rw [f9_ hq2]; exact hd2
     ·cases cs with
      | nil => exact absurd rfl (jV_ wy)
      | cons a b => exact hd0
     ·rw [List.nodup_append]
      refine ⟨nd, by simp, fun a ha b hb ab => ?_⟩
      rw [List.mem_singleton.mp hb] at ab
      exact dn (ab ▸ ha)
     ·rw [s3 _ _ e2, hxs]
      simp only [List.length_append, List.length_map, List.length_singleton]
      omega
def cornersTo (T : List (List Nat)) (P n : Nat) : List (Nat × Nat) := (List.range n).flatMap fun p => (List.range (rl T p + (if p < P then 1 else 0))).map fun k => (p, k)
theorem cC_ (T : List (List Nat)) (P n : Nat) : cornersTo T P (n + 1) = cornersTo T P n ++ (List.range (rl T n + (if n < P then 1 else 0))).map fun k => (n, k) := by
 unfold cornersTo
 rw [List.range_succ, List.flatMap_append]
 simp
theorem fA_ (T : List (List Nat)) (P : Nat) {n : Nat} : ∀ {m : Nat}, n ≤ m → (cornersTo T P n).length ≤ (cornersTo T P m).length
 | 0, h => by rw [Nat.le_zero.mp h]; exact Nat.le_refl _
 | m + 1, h => by
  by_cases e : n = m + 1
  ·rw [e]; exact Nat.le_refl _
  ·have := fA_ T P (n := n) (m := m) (by omega)
   rw [cC_, List.length_append]
   omega
theorem mO_ {H : Hp} : ∀ {vs : List V} {cs : List (Nat × Nat)}, Reps H vs (cs.map dC) → ∃ xs : List Addr, vs = xs.map V.ref ∧ Cs H xs cs
 | [], [], _ => ⟨[], rfl, trivial⟩
 | v :: vs, c :: cs, h => by
  obtain ⟨x, r, e, hx, hr⟩ := h
  cases e
  obtain ⟨q, ys, e1, hq, a, b, e2, ha, a2, b2, e3, ha2, e4⟩ := hx
  cases ha
  cases ha2
  subst e1 e2 e3 e4
  obtain ⟨xs, e5, hc⟩ := mO_ hr
  exact ⟨q :: xs, by rw [e5]; rfl, hq, hc⟩
 | [], _ :: _, h => by obtain ⟨x, r, e, _⟩ := h; cases e
 | _ :: _, [], h => by cases h
abbrev s_Lcorners : Stmt := stN 33
theorem c3_ : FnScope ["_law_turns", "_law_posts", "_law_found", "_law_p"] ["_law_turns", "_law_posts"] (defScope s_Lcorners) := ⟨rfl, rfl, rfl, by decide +kernel, rfl, by decide +kernel, by decide +kernel⟩
theorem eH_ : LK s_Lcorners "_law_turns" .local := by decide +kernel
theorem hI_ : LK s_Lcorners "_law_posts" .local := by decide +kernel
theorem b3_ : LK s_Lcorners "_law_found" .local := by decide +kernel
theorem c4_ : LK s_Lcorners "_law_p" .cell := by decide +kernel
theorem gr_ : LK s_Lcorners "int" .globalImplicit := by decide +kernel
theorem dG_ : LK s_Lcorners "len" .globalImplicit := by decide +kernel
theorem cK_ : LK s_Lcorners "range" .globalImplicit := by decide +kernel
def sp_corners : Sp := fun vs H Q _ => ∃ (l : Addr) (as_ : List Addr) (T : List (List Nat)) (P : Nat), vs = [.ref l, .int P] ∧ Tn H l as_ T ∧ T.length ≤ 16 ∧ (corners T P).length ≤ 900 ∧
 ∀ R H', Same H H' → Rep (newH H H') (.ref R) (.lst ((corners T P).map dC)) → Q (.ref R) H'
theorem jq_ (T : Txt K mg) (F : Fn0 K mg "_law_corners" s_Lcorners) : Cal P w K mg base "_law_corners" ["_law_turns", "_law_posts"] 1 sp_corners := by
 refine aJ_ F c3_ (fun _ _ _ _ _ _ us hl => match us, hl with | [_, _], _ => rfl) ?len ?body
 case len => rintro vs H Q E ⟨l, as_, T, P, rfl, _⟩; rfl
 case body =>
  intro f cdv A outer s H vs Q E hr h
  obtain ⟨l, as_, Tt, Pp, rfl, hT, t16, c9, k⟩ := h
  refine' ⟨_, ?D, ?R⟩
  case D =>
   refine' ad_ ?g1 ?g2
   case' g1 => refine' ai_ (i := 2) c3_.nd rfl b3_ ?g3
   case' g3 => refine' cG_ aa_
   case' g2 => refine' ad_ ?g5 ?g6
   case' g5 => refine' bg_ PassesOwn.never rfl ?g7 ?g8 ?g9
   case' g7 => refine' aS_ cK_ T.n_range ?g10
   case' g10 => refine' pa_c ?g11 aa_
   case' g11 => refine' al_ am_ dG_ T.n_len aQ_ ?g13
   case' g13 => refine' pa_c (pv1 0 rfl eH_) aa_
   case g8 => exact ez_ (i := 3) c3_.nd rfl c4_ rfl
   case' g9 => refine' ae_ ?g16
   case' g16 => refine' ai_ (i := 2) c3_.nd rfl b3_ ?g17
   case' g17 => refine' pe_op mE_ (pv1 2 rfl b3_) ?g19
   case' g19 => refine' bY_ (N' := ["_law_k", "_law_p"]) (ix := [none, some 3]) rfl rfl (bR_ ?g20) ?g21 (fun _ _ _ => ?g22) (fun _ _ _ => ?g23) (fun _ _ _ => ?g24)
   case g20 => exact (by show scpB (defScope s_Lcorners) ["_law_turns", "_law_posts", "_law_found", "_law_p"] _ _ _ = true; decide +kernel)
   case' g21 => refine' aS_ cK_ T.n_range ?g25
   case' g25 => refine' pa_c ?g26 aa_
   case' g26 => refine' pe_op aN_ ?g28 ?g29
   case' g28 => refine' al_ am_ dG_ T.n_len aQ_ ?g30
   case' g30 => refine' pa_c ?g31 aa_
   case' g31 => refine' pe_ix ah_ (pv1 0 rfl eH_) (pvc 3 rfl c4_) (fun _ _ => rfl)
   case' g29 => refine' dR_ h2_ gr_ T.n_int k5_ ?g35
   case' g35 => refine' pa_c ?g36 aa_
   case' g36 => refine' e4_ op_lt (pvc 3 rfl c4_) (pv1 1 rfl hI_) (nomark _)
   case g22 => exact ak_ (i := 0) (by show List.Nodup (["_law_k", "_law_p"] : List Str); decide +kernel) rfl rfl
   case g23 => exact ct_
   case' g24 => refine' aH_ ?g40
   case' g40 => refine' pa_c (pvc 1 rfl rfl) ?g42
   case' g42 => refine' pa_c (pv1 0 rfl rfl) aa_
   case' g6 => refine' ae_ ?g45
   case' g45 => refine' aq_ (pv1 2 rfl b3_)
  case R =>
   walk_at "rd"
   refine ⟨by decide, fun R hR => ?_⟩
   have s0 : Same H (upd H R (.lst [])) := Same.new hR
   refine ⟨_, .inl (s0 _ _ hT.top), ?_⟩
   rw [List.length_map, hT.len]
   refine ⟨by omega, by omega, ?_⟩
   rw [Int.toNat_natCast]
   refine bK_ (fun i σ H' => ∃ (R : Addr) (e : Option V), σ = [some (.ref l), some (.int Pp), some (.ref R), e] ∧ Same H H' ∧ Rep (newH H H') (.ref R) (.lst ((cornersTo Tt Pp i).map dC))) ?_ ?_ ?_
   ·refine ⟨R, none, rfl, s0, R, [], rfl, ?_, rfl⟩
    rw [bZ_ hR, ac_]
   ·rintro i σ H' hi ⟨R, e, rfl, sH, rep⟩
    walk_at "rd"
    have hT' := hT.mono sH
    obtain ⟨a, ea, at0, ra⟩ := hT'.at_ hi
    rw [Int.zero_add]
    refine ⟨_, hT'.top, _, at0, _, rfl, _, .inl ra, ?_⟩
    right
    have eN : (((Tt.getD i []).map fun n : Nat => V.int n).length : Int) + (if (i : Int) < (Pp : Int) then 1 else 0) = ((rl Tt i + (if i < Pp then 1 else 0) : Nat) : Int) := by
     rw [List.length_map]
     unfold rl
     by_cases z : i < Pp
     ·rw [if_pos (by omega), if_pos z]; omega
     ·rw [if_neg (by omega), if_neg z]; omega
    rw [eN]
    have c1 := fA_ Tt Pp (n := i + 1) (m := Tt.length) hi
    have c2 : (cornersTo Tt Pp Tt.length).length ≤ 900 := c9
    rw [cC_, List.length_append, List.length_map, List.length_range] at c1
    clear eN
    generalize hN : rl Tt i + (if i < Pp then 1 else 0) = N at c1 ⊢
    refine ⟨by omega, by omega, ?_⟩
    obtain ⟨R', vs, eR, hR', reps⟩ := rep
    cases eR
    obtain ⟨nR, hR1⟩ := aP_ hR'
    have lv := reps.length
    rw [List.length_map] at lv
    refine bL_ (n := N) (B := H) (Pσ := fun σ => ∃ e, σ = [e, some (.int i)]) (ds := ((List.range N).map fun k => (i, k)).map dC) sH ⟨none, rfl⟩ (by simp) (by omega) (fun j H2 hj s2 => by show j < Int.toNat _; omega) (fun H2 s2 => by show Int.toNat _ ≤ _; omega) ?_ ?_
    ·rintro D j z d σ' H2 H2' hD hDo hs2 hj hdj ⟨rfl, rfl⟩ ⟨e2, rfl⟩ R2 kR
     walk_at "rd"
     refine ⟨by decide, fun p hp => kR _ _ _ ⟨_, rfl⟩ (Same.new hp) ?_⟩
     have : d = dC (i, j) := by
      rw [List.map_map, List.getElem?_map, List.getElem?_range hj] at hdj
      exact (Option.some.inj hdj).symm
     rw [this]
     refine lr_ ?_
     obtain ⟨oD, hoD⟩ := hDo
     rw [bw_ (fun z => by rw [z, hoD] at hp; cases hp) ((sH.trans hs2).free hp), ac_]
     show some (HO.tup [V.int i, V.int (0 + (j : Int))]) = some (HO.tup [V.int i, V.int j])
     rw [Int.zero_add]
    ·intro D H2 hD s2 rep2
     obtain ⟨D', ws, eD, hD', reps2⟩ := rep2
     cases eD
     obtain ⟨nD, hD1⟩ := aP_ hD'
     have lw := reps2.length
     rw [List.length_map, List.length_map, List.length_range] at lw
     refine ⟨_, rfl, _, s2 _ _ hR1, _, hD1, Nat.le_of_lt (small1000 (show vs.length + ws.length ≤ 1000 by rw [lv, lw]; omega)), fun p hp => ⟨(sH.trans s2).trans (Same.new hp), p, vs ++ ws, rfl, ?_, ?_⟩⟩
     ·rw [bZ_ ((sH.trans s2).free hp), ac_]
     ·rw [cC_, hN, List.map_append]
      exact (Reps.mono (dy_ (s2.trans (Same.new hp))) _ reps).append (Reps.mono (dy_ (Same.new hp)) _ reps2)
   ·rintro σ H' ⟨R, e, rfl, sH, rep⟩
    walk_at "rd"
    exact k R H' sH rep
def Dn (p k : Nat) (e : Nat × Nat) : Prop := e.1 < p ∨ (e.1 = p ∧ e.2 < k)
theorem mP_ {a b : Nat × Nat} (h : cK a = cK b) : a = b := by
 unfold cK at h
 injection h with h1 h2
 injection h2 with h2 _
 injection h1 with h1
 injection h2 with h2
 exact Prod.ext (by omega) (by omega)
structure Mi {α : Type} (ky : α → Key) (T : List (List α)) (S : Hp) (D : Nat × Nat → Prop) (k1 : List (Key × V)) (k2 : List (List Key × V)) : Prop where
 fi : ∀ w : α, (∃ c q, D c ∧ wi T c = some w ∧ valV k1 (ky w) = some (.ref q) ∧ S q = some (cV c)) ∨ ((∀ c, D c → wi T c ≠ some w) ∧ valV k1 (ky w) = none)
 ma : ∀ a b, Mate T a b → D a → D b → ∃ q, valV k2 (cK a) = some (.ref q) ∧ S q = some (cV b)
theorem Mi.mono {α : Type} {ky : α → Key} {T : List (List α)} {S S' : Hp} {D : Nat × Nat → Prop} {k1 : List (Key × V)} {k2 : List (List Key × V)} (h : Mi ky T S D k1 k2) (s : Same S S') : Mi ky T S' D k1 k2 :=
 ⟨fun w => (h.fi w).imp (fun ⟨c, q, a, b, d, e⟩ => ⟨c, q, a, b, d, s _ _ e⟩) id, fun a b m x y => (h.ma a b m x y).elim fun q z => ⟨q, z.1, s _ _ z.2⟩⟩
theorem Mi.imp {α : Type} {ky : α → Key} {T : List (List α)} {S : Hp} {D D' : Nat × Nat → Prop} {k1 : List (Key × V)} {k2 : List (List Key × V)} (h : Mi ky T S D k1 k2) (i : ∀ c w, wi T c = some w → (D c ↔ D' c)) : Mi ky T S D' k1 k2 :=
 ⟨fun w => (h.fi w).imp (fun ⟨c, q, a, b, d, e⟩ => ⟨c, q, (i c _ b).mp a, b, d, e⟩) (fun ⟨a, b⟩ => ⟨fun c x y => a c ((i c _ y).mpr x) y, b⟩), fun a b m x y => by
  obtain ⟨_, w, wa, wb⟩ := id m
  exact h.ma a b m ((i a _ wa).mpr x) ((i b _ wb).mpr y)⟩
theorem Mi.new {α : Type} [DecidableEq α] {ky : α → Key} {T : List (List α)} {S : Hp} {D : Nat × Nat → Prop} {k1 : List (Key × V)} {k2 : List (List Key × V)} (h : Mi ky T S D k1 k2) {c0 : Nat × Nat} {w : α} {q0 : Addr} (inj : ∀ a b, ky a = ky b → a = b) (hw : wi T c0 = some w) (hn : valV k1 (ky w) = none) (h0 : S q0 = some (cV c0)) :
  Mi ky T S (fun c => D c ∨ c = c0) (putK k1 (ky w) (.ref q0)) k2 := by
 have no : ∀ c, D c → wi T c ≠ some w := by
  rcases h.fi w with ⟨c, q, _, _, e, _⟩ | ⟨a, _⟩
  ·rw [hn] at e; cases e
  ·exact a
 refine ⟨fun w' => ?_, fun a b m x y => ?_⟩
 ·rw [eA_]
  by_cases e : w' = w
  ·subst e
   exact .inl ⟨c0, q0, .inr rfl, hw, by rw [if_pos rfl], h0⟩
  ·rw [if_neg (fun z => e (inj _ _ z))]
   rcases h.fi w' with ⟨c, q, a, b, d, f⟩ | ⟨a, b⟩
   ·exact .inl ⟨c, q, .inl a, b, d, f⟩
   ·refine .inr ⟨fun c hc hcw => ?_, b⟩
    rcases hc with hc | hc
    ·exact a c hc hcw
    ·rw [hc, hw] at hcw; cases hcw; exact e rfl
 ·obtain ⟨ne, w', wa, wb⟩ := id m
  rcases x with x | x <;> rcases y with y | y
  ·exact h.ma a b m x y
  ·rw [y, hw] at wb; cases wb; exact absurd wa (no a x)
  ·rw [x, hw] at wa; cases wa; exact absurd wb (no b y)
  ·exact absurd (x.trans y.symm) ne
theorem Mi.old {α : Type} [DecidableEq α] {ky : α → Key} {T : List (List α)} {S : Hp} {D : Nat × Nat → Prop} {k1 : List (Key × V)} {k2 : List (List Key × V)} (tw : Tw T) (h : Mi ky T S D k1 k2) {c0 c : Nat × Nat} {w : α} {q q0 : Addr} (hw : wi T c0 = some w) (hD : ¬ D c0) (hc : D c) (hcw : wi T c = some w) (hq : S q = some (cV c)) (h0 : S q0 = some (cV c0)) :
  Mi ky T S (fun c => D c ∨ c = c0) k1 (putK (putK k2 (cK c0) (.ref q)) (cK c) (.ref q0)) := by
 have ne : c ≠ c0 := fun z => hD (z ▸ hc)
 have m0 : Mate T c c0 := ⟨ne, w, hcw, hw⟩
 refine ⟨fun w' => ?_, fun a b m x y => ?_⟩
 ·rcases h.fi w' with ⟨c, q, a, b, d, f⟩ | ⟨a, b⟩
  ·exact .inl ⟨c, q, .inl a, b, d, f⟩
  ·refine .inr ⟨fun c' hc' hcw' => ?_, b⟩
   rcases hc' with hc' | hc'
   ·exact a c' hc' hcw'
   ·rw [hc', hw] at hcw'; cases hcw'; exact a c hc hcw
 ·rw [eA_, eA_]
  by_cases e1 : a = c
  ·subst e1
   rw [if_pos rfl, fQ_ tw m m0]
   exact ⟨q0, rfl, h0⟩
  ·rw [if_neg (fun z => e1 (mP_ z))]
   by_cases e2 : a = c0
   ·subst e2
    rw [if_pos rfl, fQ_ tw m m0.symm]
    exact ⟨q, rfl, hq⟩
   ·rw [if_neg (fun z => e2 (mP_ z))]
    have da := x.resolve_right e2
    rcases y with y | y
    ·exact h.ma a b m da y
    ·rw [y] at m
     exact absurd (fQ_ tw m.symm m0.symm) e1
structure MS (H S H' : Hp) (F M : Addr) (k1 : List (Key × V)) (k2 : List (List Key × V)) : Prop where
 hS : Same H S
 sF : S F = none
 sM : S M = none
 sH : Same S H'
 f : H' F = some (.dK k1)
 m : H' M = some (.dT k2)
theorem MS.new {H S H' : Hp} {F M p : Addr} {o : HO} {k1 : List (Key × V)} {k2 : List (List Key × V)} (h : MS H S H' F M k1 k2) (hp : H' p = none) : MS H (upd S p o) (upd H' p o) F M k1 k2 := by
 have nF : F ≠ p := fun z => by rw [← z, h.f] at hp; cases hp
 have nM : M ≠ p := fun z => by rw [← z, h.m] at hp; cases hp
 exact ⟨h.hS.trans (a7_ h.sH hp), by rw [af_ nF]; exact h.sF, by rw [af_ nM]; exact h.sM, fO_ h.sH hp, by rw [af_ nF]; exact h.f, by rw [af_ nM]; exact h.m⟩
theorem MS.ne {H S H' : Hp} {F M : Addr} {k1 : List (Key × V)} {k2 : List (List Key × V)} (h : MS H S H' F M k1 k2) : F ≠ M := fun z => by
 have := h.f
 rw [z, h.m] at this
 cases this
theorem MS.putF {H S H' : Hp} {F M : Addr} {k1 : List (Key × V)} {k2 : List (List Key × V)} (h : MS H S H' F M k1 k2) (k1' : List (Key × V)) : MS H S (upd H' F (.dK k1')) F M k1' k2 :=
 ⟨h.hS, h.sF, h.sM, bM_ h.sH h.sF, ac_, by rw [af_ h.ne.symm]; exact h.m⟩
theorem MS.putM {H S H' : Hp} {F M : Addr} {k1 : List (Key × V)} {k2 : List (List Key × V)} (h : MS H S H' F M k1 k2) (k2' : List (List Key × V)) : MS H S (upd H' M (.dT k2')) F M k1 k2' :=
 ⟨h.hS, h.sF, h.sM, bM_ h.sH h.sM, by rw [af_ h.ne]; exact h.f, ac_⟩
abbrev s_Lmates : Stmt := stN 32
theorem cL_ : FnScope ["_law_turns", "_law_first", "_law_mates_here", "_law_p", "_law_k", "_law_wire"] ["_law_turns"] (defScope s_Lmates) := ⟨rfl, rfl, rfl, by decide +kernel, rfl, by decide +kernel, by decide +kernel⟩
theorem ee_ : LK s_Lmates "_law_turns" .local := by decide +kernel
theorem cb_ : LK s_Lmates "_law_first" .local := by decide +kernel
theorem c5_ : LK s_Lmates "_law_mates_here" .local := by decide +kernel
theorem bG_ : LK s_Lmates "_law_p" .local := by decide +kernel
theorem cc_ : LK s_Lmates "_law_k" .local := by decide +kernel
theorem cd_ : LK s_Lmates "_law_wire" .local := by decide +kernel
theorem eI_ : LK s_Lmates "len" .globalImplicit := by decide +kernel
theorem dH_ : LK s_Lmates "range" .globalImplicit := by decide +kernel
def sp_mates : Sp := fun vs H Q _ => ∃ (α : Type) (_ : DecidableEq α) (lab : α → V) (ky : α → Key) (l : Addr) (as_ : List Addr) (T : List (List α)), vs = [.ref l] ∧ (∀ w, lab w = kV (ky w)) ∧ (∀ a b, ky a = ky b → a = b) ∧ Tg lab H l as_ T ∧ Tw T ∧ T.length ≤ 16 ∧ (∀ p, rl T p ≤ 30) ∧ ∀ m H', Same H H' → H m = none → MatesAt H' m T → Q (.ref m) H'
theorem ls_ (T : Txt K mg) (F : Fn0 K mg "_law_mates" s_Lmates) : Cal P w K mg base "_law_mates" ["_law_turns"] 1 sp_mates := by
 refine aJ_ F cL_ (fun _ _ _ _ _ _ us hl => match us, hl with | [_], _ => rfl) ?len ?body
 case len => rintro vs H Q E ⟨_, _, _, _, l, as_, T, rfl, _⟩; rfl
 case body =>
  intro f cdv A outer s H vs Q E hr h
  obtain ⟨α, dec, lab, ky, l, as_, Tt, rfl, hlab, inj, hT, tw, t16, r30, k⟩ := h
  refine' ⟨_, ?D, ?R⟩
  case D =>
   refine' ad_ ?g1 ?g2
   case g1 => exact ai_ (i := 1) cL_.nd rfl cb_ hy_
   case' g2 => refine' ad_ ?g3 ?g4
   case g3 => exact ai_ (i := 2) cL_.nd rfl c5_ jR_
   case' g4 => refine' ad_ ?g5 ?g6
   case' g5 => refine' bg_ PassesOwn.never rfl ?g7 ?g8 ?g9
   case' g7 => refine' aS_ dH_ T.n_range ?g10
   case' g10 => refine' pa_c ?g11 aa_
   case' g11 => refine' al_ am_ eI_ T.n_len aQ_ ?g13
   case' g13 => refine' pa_c (pv1 0 rfl ee_) aa_
   case g8 => exact ak_ (i := 3) cL_.nd rfl bG_
   case' g9 => refine' ae_ ?g16
   case' g16 => refine' bg_ PassesOwn.never rfl ?g17 ?g18 ?g19
   case' g17 => refine' aS_ dH_ T.n_range ?g20
   case' g20 => refine' pa_c ?g21 aa_
   case' g21 => refine' al_ am_ eI_ T.n_len aQ_ ?g23
   case' g23 => refine' pa_c ?g24 aa_
   case' g24 => refine' pe_ix ah_ (pv1 0 rfl ee_) (pv1 3 rfl bG_) (fun _ _ => rfl)
   case g18 => exact ak_ (i := 4) cL_.nd rfl cc_
   case' g19 => refine' ad_ ?g28 ?g29
   case' g28 => refine' ai_ (i := 5) cL_.nd rfl cd_ ?g30
   case' g30 => refine' pe_ix ah_ ?g31 (pv1 4 rfl cc_) (fun _ _ => rfl)
   case' g31 => refine' pe_ix ah_ (pv1 0 rfl ee_) (pv1 3 rfl bG_) (fun _ _ => rfl)
   case' g29 => refine' ae_ ?g35
   case' g35 => refine' ps_if ?g36 ?g37 ?g38
   case' g36 => refine' mu_ (n6_ (un1 hr.units) (pv1 5 rfl cd_) (pv1 1 rfl cb_))
   case' g37 => refine' ad_ ?g41 ?g42
   case' g41 => refine' gb_ (un1 hr.units) (pv1 2 rfl c5_) ?g44 ?g45 rfl
   case' g44 => refine' aH_ ?g46
   case' g46 => refine' pa_c (pv1 3 rfl bG_) ?g48
   case' g48 => refine' pa_c (pv1 4 rfl cc_) aa_
   case' g45 => refine' ea_ (un1 hr.units) (pv1 1 rfl cb_) (pv1 5 rfl cd_) (fun _ _ => rfl)
   case' g42 => refine' ae_ ?g53
   case' g53 => refine' gb_ (un1 hr.units) (pv1 2 rfl c5_) ?g55 ?g56 rfl
   case' g55 => refine' ea_ (un1 hr.units) (pv1 1 rfl cb_) (pv1 5 rfl cd_) (fun _ _ => rfl)
   case' g56 => refine' aH_ ?g59
   case' g59 => refine' pa_c (pv1 3 rfl bG_) ?g61
   case' g61 => refine' pa_c (pv1 4 rfl cc_) aa_
   case' g38 => refine' ae_ ?g64
   case' g64 => refine' gb_ (un1 hr.units) (pv1 1 rfl cb_) (pv1 5 rfl cd_) ?g67 rfl
   case' g67 => refine' aH_ ?g68
   case' g68 => refine' pa_c (pv1 3 rfl bG_) ?g70
   case' g70 => refine' pa_c (pv1 4 rfl cc_) aa_
   case' g6 => refine' ae_ ?g73
   case' g73 => refine' aq_ (pv1 2 rfl c5_)
  case R =>
   walk_at "rd"
   intro Fd hFd Md hMd
   have s0 : Same H (upd (upd H Fd (HO.dK [])) Md (HO.dT [])) := (Same.new hFd).trans (Same.new hMd)
   have nF : Fd ≠ Md := fun z => by rw [← z, ac_] at hMd; cases hMd
   have hM0 : H Md = none := (Same.new hFd).free hMd
   have ms0 : MS H H (upd (upd H Fd (HO.dK [])) Md (HO.dT [])) Fd Md [] [] := ⟨Same.refl _, hFd, hM0, s0, by rw [af_ nF]; exact ac_, ac_⟩
   generalize upd (upd H Fd (HO.dK [])) Md (HO.dT []) = H0 at s0 ms0 ⊢
   refine ⟨_, .inl (s0 _ _ hT.top), ?_⟩
   rw [List.length_map, hT.len]
   refine ⟨by omega, by omega, ?_⟩
   rw [Int.toNat_natCast]
   refine bK_ (fun i σ H' => ∃ (S : Hp) (k1 : List (Key × V)) (k2 : List (List Key × V)) (e3 e4 e5 : Option V), σ = [some (.ref l), some (.ref Fd), some (.ref Md), e3, e4, e5] ∧ MS H S H' Fd Md k1 k2 ∧ Mi ky Tt S (Dn i 0) k1 k2 ∧ k1.length ≤ 30 * i ∧ k2.length ≤ 60 * i) ?_ ?_ ?_
   ·refine ⟨H, [], [], _, _, _, rfl, ms0, ⟨fun w => .inr ⟨fun c hc => ?_, rfl⟩, fun a b m x y => ?_⟩, Nat.le_refl _, Nat.le_refl _⟩
    ·rcases hc with z | z <;> omega
    ·rcases x with z | z <;> omega
   ·rintro i σ H' hi ⟨S, k1, k2, e3, e4, e5, rfl, ms, mi, l1, l2⟩
    have hT1 := (hT.mono ms.hS).mono ms.sH
    obtain ⟨a, ea, at0, ra⟩ := hT1.at_ hi
    walk_at "rd"
    rw [Int.zero_add]
    refine ⟨_, hT1.top, _, at0, _, rfl, _, .inl ra, ?_⟩
    rw [List.length_map]
    have r3 := r30 i
    unfold rl at r3
    refine ⟨by omega, by omega, ?_⟩
    rw [Int.toNat_natCast]
    refine bK_ (fun j σ H' => ∃ (S : Hp) (k1 : List (Key × V)) (k2 : List (List Key × V)) (e4 e5 : Option V), σ = [some (.ref l), some (.ref Fd), some (.ref Md), some (.int i), e4, e5] ∧ MS H S H' Fd Md k1 k2 ∧ Mi ky Tt S (Dn i j) k1 k2 ∧ k1.length ≤ 30 * i + j ∧ k2.length ≤ 60 * i + 2 * j) ?_ ?_ ?_
    ·exact ⟨S, k1, k2, _, _, rfl, ms, mi, by omega, by omega⟩
    ·clear ms mi l1 l2 hT1 ra ea at0 a k1 k2 S
     rintro j σ H' hj ⟨S, k1, k2, e4, e5, rfl, ms, mi, l1, l2⟩
     have hT1 := (hT.mono ms.hS).mono ms.sH
     obtain ⟨a, ea, at0, ra⟩ := hT1.at_ hi
     walk_at "rd"
     simp only [Int.zero_add]
     obtain ⟨w, hw⟩ : ∃ w, (Tt.getD i [])[j]? = some w := ⟨_, List.getElem?_eq_getElem hj⟩
     have hwi : wi Tt (i, j) = some w := hw
     have i16 : i < 16 := by omega
     have nD : ¬ Dn i j (i, j) := by unfold Dn; omega
     have eD : ∀ c w', wi Tt c = some w' → ((Dn i j c ∨ c = (i, j)) ↔ Dn i (j + 1) c) := fun c w' _ => by
      unfold Dn
      constructor
      ·rintro ((z | ⟨z, z2⟩) | z)
       ·exact .inl z
       ·exact .inr ⟨z, by omega⟩
       ·rw [z]; exact .inr ⟨rfl, Nat.lt_succ_self _⟩
      ·rintro (z | ⟨z, z2⟩)
       ·exact .inl (.inl z)
       ·by_cases y : c.2 = j
        ·exact .inr (Prod.ext z y)
        ·exact .inl (.inr ⟨z, by omega⟩)
     refine ⟨_, hT1.top, _, at0, _, rfl, _, ra, kV (ky w), ?_, _, DGet.k (k := ky w) ms.f, ?_⟩
     ·exact b8_ (by omega) (by rw [Int.toNat_natCast, List.getElem?_map, hw, Option.map_some, hlab])
     rcases mi.fi w with ⟨c, q, dc, wc, hv, hq⟩ | ⟨no, hv⟩
     ·rw [if_pos (by rw [hv]; rfl)]
      refine ⟨.ref q, hv ▸ DGet.k (k := ky w) ms.f, by decide, fun p hp => ?_⟩
      have ms1 := ms.new (o := cV (i, j)) hp
      have ms2 := ms1.putM (putK k2 (cK (i, j)) (.ref q))
      have z1 := bn_ k2 (cK (i, j)) (.ref q)
      refine ⟨_, DPut.t (k := cK (i, j)) ms1.m ac_ (small1000 (by omega)), by decide, fun q0 hq0 => ?_⟩
      have ms3 := ms2.new (o := cV (i, j)) hq0
      have mi3 := (mi.mono (a7_ (o := cV (i, j)) ms.sH hp)).mono (a7_ (o := cV (i, j)) ms2.sH hq0)
      have hqS := a7_ (o := cV (i, j)) ms2.sH hq0 _ _ (a7_ (o := cV (i, j)) ms.sH hp _ _ hq)
      have z2 := bn_ (putK k2 (cK (i, j)) (.ref q)) (cK c) (.ref q0)
      refine ⟨.ref q, hv ▸ DGet.k (k := ky w) ms3.f, _, DPut.t (k := cK c) ms3.m (ms3.sH _ _ hqS) (small1000 (by omega)), ?_⟩
      exact ⟨_, _, _, ms3.putM _, (Mi.old tw mi3 hwi nD dc wc hqS ac_).imp eD, by omega, by omega⟩
     ·rw [if_neg (by rw [hv]; decide)]
      refine ⟨by decide, fun q0 hq0 => ?_⟩
      have ms1 := ms.new (o := cV (i, j)) hq0
      have z1 := bn_ k1 (ky w) (.ref q0)
      refine ⟨_, DPut.k (k := ky w) ms1.f (small1000 (by omega)), ?_⟩
      exact ⟨_, _, _, ms1.putF _, ((mi.mono (a7_ ms.sH hq0)).new inj hwi hv ac_).imp eD, by omega, by omega⟩
    ·rintro σ H' ⟨S, k1, k2, e4, e5, rfl, ms, mi, l1, l2⟩
     refine ⟨S, k1, k2, _, _, _, rfl, ms, mi.imp fun c w hw => ?_, by omega, by omega⟩
     have := (wi_lt hw).1
     unfold rl at this
     unfold Dn
     constructor
     ·rintro (z | ⟨z, z2⟩)
      ·exact .inl (by omega)
      ·exact .inl (by omega)
     ·rintro (z | ⟨z, z2⟩)
      ·by_cases y : c.1 = i
       ·rw [y] at this; exact .inr ⟨y, this⟩
       ·exact .inl (by omega)
      ·omega
   ·rintro σ H' ⟨S, k1, k2, e3, e4, e5, rfl, ms, mi, l1, l2⟩
    walk_at "rd"
    refine k Md H' (ms.hS.trans ms.sH) hM0 ⟨k2, ms.m, fun a b m => ?_⟩
    obtain ⟨ne, w, wa, wb⟩ := id m
    obtain ⟨q, h1, h2⟩ := mi.ma a b m (.inl (wi_lt wa).2) (.inl (wi_lt wb).2)
    exact ⟨q, h1, ms.sH _ _ h2⟩
structure To (B H : Hp) (l : Addr) (as_ : List Addr) (T : List (List Nat)) : Prop where
 tn : Tn H l as_ T
 nd : as_.Nodup
 nl : l ∉ as_
 fl : B l = none
 fa : ∀ a ∈ as_, B a = none
theorem To.mono {B H H' : Hp} {l : Addr} {as_ : List Addr} {T : List (List Nat)} (h : To B H l as_ T) (s : Same H H') : To B H' l as_ T := ⟨h.tn.mono s, h.nd, h.nl, h.fl, h.fa⟩
theorem jr_ (n p : Nat) : (List.replicate n ([] : List Nat)).getD p [] = [] := by
 rw [List.getD_eq_getElem?_getD, List.getElem?_replicate]
 split <;> rfl
theorem rl_le (T : List (List Nat)) (p : Nat) : rl T p ≤ T.flatten.length := by
 unfold rl
 rw [List.getD_eq_getElem?_getD]
 cases e : T[p]? with
 | none => exact Nat.zero_le _
 | some l =>
  obtain ⟨hp, e1⟩ := List.getElem?_eq_some_iff.mp e
  have h2 : T.flatten.length = (T.take p).flatten.length + (T.drop p).flatten.length := by rw [← List.length_append, ← List.flatten_append, List.take_append_drop]
  rw [List.drop_eq_getElem_cons hp, e1, List.flatten_cons, List.length_append] at h2
  show l.length ≤ _
  omega
theorem both {c1 : Prop} [Decidable c1] {α : Type} {C : α → Prop} {c2 : α → Prop} [∀ x, Decidable (c2 x)] {X : α → Prop} {Y : Prop} (a : α) (ha : C a) (hX : c1 → c2 a → X a) (hY : Y) : if c1 then ∃ x, C x ∧ (if c2 x then X x else Y) else Y := by
 by_cases h1 : c1
 ·rw [if_pos h1]
  refine ⟨a, ha, ?_⟩
  by_cases h2 : c2 a
  ·rw [if_pos h2]; exact hX h1 h2
  ·rw [if_neg h2]; exact hY
 ·rw [if_neg h1]; exact hY
theorem js_ (l : List Nat) (k wire : Nat) : (l.map fun n : Nat => V.int n).take k ++ V.int (0 + (wire : Nat)) :: (l.map fun n : Nat => V.int n).drop k = (RimT.ins l k wire).map fun n : Nat => V.int n := by
 unfold RimT.ins
 rw [List.map_append, List.map_cons, List.map_take, List.map_drop, Int.zero_add]
theorem To.ins {B H : Hp} {l : Addr} {as_ : List Addr} {T : List (List Nat)} (h : To B H l as_ T) {c : Nat × Nat} {a : Addr} (ha : as_[c.1]? = some a) (wire : Nat) : To B (upd H a (.lst ((RimT.ins (T.getD c.1 []) c.2 wire).map fun n : Nat => V.int n))) l as_ (insAt T c wire) := by
 have la : l ≠ a := fun e => h.nl (by rw [e]; exact List.mem_of_getElem? ha)
 have cl : c.1 < as_.length := (List.getElem?_eq_some_iff.mp ha).1
 refine ⟨⟨by rw [af_ la]; exact h.tn.top, by rw [aI_]; exact h.tn.len, fun p b hb => ?_⟩, h.nd, h.nl, h.fl, h.fa⟩
 by_cases e : c.1 = p
 ·subst e
  rw [ha] at hb
  cases hb
  rw [ac_]
  unfold insAt
  rw [List.getD_eq_getElem?_getD (l := T.set _ _), List.getElem?_set, if_pos rfl, if_pos (by rw [← h.tn.len]; exact cl)]
  rfl
 ·have ba : b ≠ a := fun z => by
   rw [z] at hb
   exact e ((List.getElem?_inj cl h.nd).mp (ha.trans hb.symm))
  rw [af_ ba, h.tn.row p b hb]
  unfold insAt
  rw [List.getD_eq_getElem?_getD (l := T.set _ _), List.getElem?_set, if_neg e, ← List.getD_eq_getElem?_getD]
theorem To.more {B H : Hp} {l : Addr} {as_ : List Addr} {T : List (List Nat)} (h : To B H l as_ T) (sB : Same B H) {a : Addr} (na : H a = none) (r : List Nat) : To B (upd (upd H a (.lst (r.map fun n : Nat => V.int n))) l (.lst ((as_ ++ [a]).map V.ref))) l (as_ ++ [a]) (T ++ [r]) := by
 have la : l ≠ a := ag_ h.tn.top na
 have an : a ∉ as_ := fun z => by
  obtain ⟨p, hp, e⟩ := List.mem_iff_getElem.mp z
  have := h.tn.row p a (by rw [List.getElem?_eq_getElem hp, e])
  rw [na] at this
  cases this
 refine ⟨⟨ac_, by simp [h.tn.len], fun p b hb => ?_⟩, List.nodup_append.mpr ⟨h.nd, by simp, fun x hx y hy e => an (by rw [← List.mem_singleton.mp hy, ← e]; exact hx)⟩, fun z => ?_, h.fl, fun b hb => ?_⟩
 ·have bl : b ≠ l := fun e => by
   rw [e] at hb
   rcases List.mem_append.mp (List.mem_of_getElem? hb) with z | z
   ·exact h.nl z
   ·exact la (List.mem_singleton.mp z)
  rw [af_ bl]
  by_cases hp : p < as_.length
  ·rw [List.getElem?_append_left hp] at hb
   have e := h.tn.row p b hb
   rw [af_ (fun z => by rw [z, na] at e; cases e), e, List.getD_eq_getElem?_getD, List.getD_eq_getElem?_getD, List.getElem?_append_left (by rw [← h.tn.len]; exact hp)]
  ·rw [List.getElem?_append_right (by omega)] at hb
   have e := List.mem_singleton.mp (List.mem_of_getElem? hb)
   have hz : p = as_.length := by
    have := (List.getElem?_eq_some_iff.mp hb).1
    simp at this
    omega
   rw [e, ac_, hz, h.tn.len, List.getD_eq_getElem?_getD, List.getElem?_append_right (Nat.le_refl _)]
   simp
 ·rcases List.mem_append.mp z with z | z
  ·exact h.nl z
  ·exact la (List.mem_singleton.mp z)
 ·rcases List.mem_append.mp hb with z | z
  ·exact h.fa b z
  ·rw [List.mem_singleton.mp z]; exact sB.free na
abbrev s_Lgrown : Stmt := stN 36
theorem a1_ : FnScope ["_law_big_here", "_law_posts", "_law_many", "_law_within", "_law_turns", "_law_wire", "_law_corners_here", "_law_one", "_law_way", "_law_region_here", "_law_other", "_law_p", "_law_k"] ["_law_big_here", "_law_posts", "_law_many", "_law_within"] (defScope s_Lgrown) := ⟨rfl, rfl, rfl, by decide +kernel, rfl, by decide +kernel, by decide +kernel⟩
theorem aY_ : LK s_Lgrown "_law_big_here" .local := by decide +kernel
theorem c6_ : LK s_Lgrown "_law_posts" .local := by decide +kernel
theorem jt_ : LK s_Lgrown "_law_many" .local := by decide +kernel
theorem ju_ : LK s_Lgrown "_law_within" .local := by decide +kernel
theorem a5_ : LK s_Lgrown "_law_turns" .local := by decide +kernel
theorem c7_ : LK s_Lgrown "_law_wire" .local := by decide +kernel
theorem c8_ : LK s_Lgrown "_law_corners_here" .local := by decide +kernel
theorem ce_ : LK s_Lgrown "_law_one" .local := by decide +kernel
theorem gs_ : LK s_Lgrown "_law_way" .local := by decide +kernel
theorem c9_ : LK s_Lgrown "_law_region_here" .local := by decide +kernel
theorem fB_ : LK s_Lgrown "_law_other" .local := by decide +kernel
theorem fC_ : LK s_Lgrown "_law_p" .local := by decide +kernel
theorem fD_ : LK s_Lgrown "_law_k" .local := by decide +kernel
theorem eJ_ : LK s_Lgrown "_law_corners" .globalImplicit := by decide +kernel
theorem fG_ : LK s_Lgrown "_law_mates" .globalImplicit := by decide +kernel
theorem fc_ : LK s_Lgrown "_law_region" .globalImplicit := by decide +kernel
theorem bx_ : LK s_Lgrown "len" .globalImplicit := by decide +kernel
theorem dI_ : LK s_Lgrown "range" .globalImplicit := by decide +kernel
theorem fH_ : LK s_Lgrown "sorted" .globalImplicit := by decide +kernel
def sp_grown : Sp := fun vs H Q _ => ∃ (z : Int) (P W : Nat), vs = [.int z, .int P, .int W, .int 10] ∧ 1 ≤ P ∧ P ≤ 6 ∧ W ≤ 15 ∧
 ∀ (p l : Addr) (as_ : List Addr) (T : List (List Nat)) (y : Int) H', Same H H' → H' p = some (.tup [.ref l, .int y]) → To H H' l as_ T → Gr P W T → Q (.ref p) H'
theorem lt_ (T : Txt K mg) (F : Fn0 K mg "_law_grown" s_Lgrown) (C_Lcorners : Cal P w K mg base "_law_corners" ["_law_turns", "_law_posts"] 1 sp_corners) (C_Lmates : Cal P w K mg base "_law_mates" ["_law_turns"] 1 sp_mates) (C_Lregion : Cal P w K mg base "_law_region" ["_law_turns", "_law_posts", "_law_mates_here", "_law_corner"] 2 sp_region) : Cal P w K mg base "_law_grown" ["_law_big_here", "_law_posts", "_law_many", "_law_within"] 3 sp_grown := by
 refine aJ_ F a1_ (fun _ _ _ _ _ _ us hl => match us, hl with | [_, _, _, _], _ => rfl) ?len ?body
 case len => rintro vs H Q E ⟨a, b, c, rfl, _⟩; rfl
 case body =>
  intro f cdv A outer s H vs Q E hr h
  obtain ⟨z, Pp, W, rfl, P1, P6, W15, k⟩ := h
  refine' ⟨_, ?D, ?R⟩
  case D =>
   refine' ad_ ?g1 ?g2
   case' g1 => refine' f5_ (i := 4) (N' := ["_law_p"]) (ix := [none]) rfl rfl a1_.nd rfl a5_ rfl (bR_ ?g3) ?g4 (fun _ _ _ => ?g5) (fun _ _ _ => ?g6) (fun _ _ _ => ?g7)
   case g3 => exact (by show scpB (defScope s_Lgrown) ["_law_big_here", "_law_posts", "_law_many", "_law_within", "_law_turns", "_law_wire", "_law_corners_here", "_law_one", "_law_way", "_law_region_here", "_law_other", "_law_p", "_law_k"] _ _ _ = true; decide +kernel)
   case' g4 => refine' aS_ dI_ T.n_range ?g8
   case' g8 => refine' pa_c (pv1 1 rfl c6_) aa_
   case g5 => exact ak_ (i := 0) (by show List.Nodup (["_law_p"] : List Str); decide +kernel) rfl rfl
   case g6 => exact ct_
   case' g7 => refine' cG_ aa_
   case' g2 => refine' ad_ ?g12 ?g13
   case' g12 => refine' bg_ PassesOwn.never rfl ?g14 ?g15 ?g16
   case' g14 => refine' aS_ dI_ T.n_range ?g17
   case' g17 => refine' pa_c (pv1 2 rfl jt_) aa_
   case g15 => exact ak_ (i := 5) a1_.nd rfl c7_
   case' g16 => refine' ad_ ?g20 ?g21
   case' g20 => refine' ai_ (i := 6) a1_.nd rfl c8_ ?g22
   case' g22 => refine' aj_ C_Lcorners (hr.mono (by decide)) eJ_ ?g23
   case' g23 => refine' pa_c (pv1 4 rfl a5_) ?g25
   case' g25 => refine' pa_c (pv1 1 rfl c6_) aa_
   case' g21 => refine' ad_ ?g28 ?g29
   case' g28 => refine' ai_ (i := 7) a1_.nd rfl ce_ ?g30
   case' g30 => refine' pe_ix ah_ (pv1 6 rfl c8_) ?g32 (fun _ _ => rfl)
   case' g32 => refine' pe_op aG_ (pv1 0 rfl aY_) ?g34
   case' g34 => refine' al_ am_ bx_ T.n_len aQ_ ?g35
   case' g35 => refine' pa_c (pv1 6 rfl c8_) aa_
   case' g29 => refine' ad_ ?g38 ?g39
   case' g38 => refine' ai_ (i := 0) a1_.nd rfl aY_ ?g40
   case' g40 => refine' pe_op au_ (pv1 0 rfl aY_) ?g42
   case' g42 => refine' al_ am_ bx_ T.n_len aQ_ ?g43
   case' g43 => refine' pa_c (pv1 6 rfl c8_) aa_
   case' g39 => refine' ad_ ?g46 ?g47
   case' g46 => refine' ai_ (i := 8) a1_.nd rfl gs_ ?g48
   case' g48 => refine' pe_op aG_ (pv1 0 rfl aY_) ab_
   case' g47 => refine' ad_ ?g51 ?g52
   case' g51 => refine' ai_ (i := 0) a1_.nd rfl aY_ ?g53
   case' g53 => refine' pe_op au_ (pv1 0 rfl aY_) ab_
   case' g52 => refine' ae_ ?g56
   case' g56 => refine' ps_if ?g57 ?g58 ?g59
   case' g57 => refine' PW.pt ?g60
   case' g60 => refine' mv_ ?g61 ?g62
   case' g61 => refine' az_ op_eq (pv1 8 rfl gs_) ab_ (nomark _)
   case' g62 => refine' kL_ ?g65
   case' g65 => refine' az_ op_lt ?g66 ?g67 (nomark _)
   case' g66 => refine' al_ am_ bx_ T.n_len aQ_ ?g68
   case' g68 => refine' pa_c (pv1 4 rfl a5_) aa_
   case' g67 => refine' pe_op aN_ (pv1 1 rfl c6_) (pv1 3 rfl ju_)
   case' g58 => refine' ad_ ?g73 ?g74
   case' g73 => refine' bv_ ?g75
   case' g75 => refine' pe_bm PySem.F.plainAttrs_list PySem.F.slot_list_insert PySem.F.type_list_insert ij_ ?g76 ?g77
   case' g76 => refine' pe_ix ah_ (pv1 4 rfl a5_) ?g79 (fun _ _ => rfl)
   case' g79 => refine' pe_ix ao_ (pv1 7 rfl ce_) ab_ (fun _ _ => rfl)
   case' g77 => refine' pa_c ?g82 ?g83
   case' g82 => refine' pe_ix ao_ (pv1 7 rfl ce_) ab_ (fun _ _ => rfl)
   case' g83 => refine' pa_c (pv1 5 rfl c7_) aa_
   case' g74 => refine' ae_ ?g88
   case' g88 => refine' bv_ ?g89
   case' g89 => refine' pe_bm PySem.F.plainAttrs_list PySem.F.slot_list_append PySem.F.type_list_append bi_ (pv1 4 rfl a5_) ?g91
   case' g91 => refine' pa_c ?g92 aa_
   case' g92 => refine' cG_ ?g94
   case' g94 => refine' pa_c (pv1 5 rfl c7_) aa_
   case' g59 => refine' ad_ ?g97 ?g98
   case' g97 => refine' ai_ (i := 9) a1_.nd rfl c9_ ?g99
   case' g99 => refine' aj_ C_Lregion (hr.mono (by decide)) fc_ ?g100
   case' g100 => refine' pa_c (pv1 4 rfl a5_) ?g102
   case' g102 => refine' pa_c (pv1 1 rfl c6_) ?g104
   case' g104 => refine' pa_c ?g105 ?g106
   case' g105 => refine' aj_ C_Lmates (hr.mono (by decide)) fG_ ?g107
   case' g107 => refine' pa_c (pv1 4 rfl a5_) aa_
   case' g106 => refine' pa_c (pv1 7 rfl ce_) aa_
   case' g98 => refine' ad_ ?g112 ?g113
   case' g112 => refine' ai_ (i := 10) a1_.nd rfl fB_ ?g114
   case' g114 => refine' pe_ix ah_ (pv1 9 rfl c9_) ?g116 (fun _ _ => rfl)
   case' g116 => refine' pe_op aG_ (pv1 0 rfl aY_) ?g118
   case' g118 => refine' al_ am_ bx_ T.n_len aQ_ ?g119
   case' g119 => refine' pa_c (pv1 9 rfl c9_) aa_
   case' g113 => refine' ad_ ?g122 ?g123
   case' g122 => refine' ai_ (i := 0) a1_.nd rfl aY_ ?g124
   case' g124 => refine' pe_op au_ (pv1 0 rfl aY_) ?g126
   case' g126 => refine' al_ am_ bx_ T.n_len aQ_ ?g127
   case' g127 => refine' pa_c (pv1 9 rfl c9_) aa_
   case' g123 => refine' ae_ ?g130
   case' g130 => refine' bg_ PassesOwn.never rfl ?g131 ?g132 ?g133
   case' g131 => refine' aK_ (K := K) rfl ?g134
   case' g134 => refine' kw_ hr.units fH_ T.n_sorted ?g135
   case' g135 => refine' pa_c ?g136 aa_
   case' g136 => refine' cG_ ?g138
   case' g138 => refine' pa_c (pv1 7 rfl ce_) ?g140
   case' g140 => refine' pa_c (pv1 10 rfl fB_) aa_
   case' g132 => refine' bc_ (K := K) (n := 2) rfl rfl ?g143
   case' g143 => refine' ap_ ?g144 ?g145
   case g144 => exact ak_ (i := 11) a1_.nd rfl fC_
   case' g145 => refine' ap_ ?g146 ba_
   case g146 => exact ak_ (i := 12) a1_.nd rfl fD_
   case' g133 => refine' ae_ ?g148
   case' g148 => refine' bv_ ?g149
   case' g149 => refine' pe_bm PySem.F.plainAttrs_list PySem.F.slot_list_insert PySem.F.type_list_insert ij_ ?g150 ?g151
   case' g150 => refine' pe_ix ah_ (pv1 4 rfl a5_) (pv1 11 rfl fC_) (fun _ _ => rfl)
   case' g151 => refine' pa_c (pv1 12 rfl fD_) ?g155
   case' g155 => refine' pa_c (pv1 5 rfl c7_) aa_
   case' g13 => refine' ae_ ?g158
   case' g158 => refine' aq_ ?g159
   case' g159 => refine' aH_ ?g160
   case' g160 => refine' pa_c (pv1 4 rfl a5_) ?g162
   case' g162 => refine' pa_c (pv1 0 rfl aY_) aa_
  case R =>
   walk_at "rd"
   refine ⟨by omega, by omega, ?_⟩
   rw [show Int.toNat (Pp : Int) = Pp by omega]
   intro D hD
   refine ⟨fun i m σ H' => m = Pp - i ∧ i ≤ Pp ∧ (∃ e, σ = [e]) ∧ Same H H' ∧ ∃ as_ : List Addr, as_.length = i ∧ To H H' D as_ (List.replicate i []), ⟨Pp, by simp, Nat.zero_le _, ⟨_, rfl⟩, Same.new hD, [], rfl, ⟨⟨ac_, rfl, fun p a h => (by cases h)⟩, List.nodup_nil, fun h => (by cases h), hD, fun a h => (by cases h)⟩⟩, ?_⟩
   rintro i m σ H' ⟨rfl, hi, ⟨e, rfl⟩, s1, as_, al, hT⟩
   by_cases hlt : i < Pp
   ·refine .inr ⟨hlt, fun σ2 H2 => (∃ e, σ2 = [e]) ∧ Same H H2 ∧ ∃ as_ : List Addr, as_.length = i + 1 ∧ To H H2 D as_ (List.replicate (i + 1) []), fun σ2 H2 ⟨a, b, c⟩ => ⟨Pp - (i + 1), by omega, rfl, hlt, a, b, c⟩, ?_⟩
    rintro x H'' ⟨rfl, rfl⟩
    walk_at "rd"
    refine ⟨Nat.zero_le _, fun a na => ?_⟩
    have fa : H a = none := s1.free na
    have Da : D ≠ a := ag_ hT.tn.top na
    refine ⟨as_.map V.ref, by rw [af_ Da]; exact hT.tn.top, small1000 (by rw [List.length_map]; omega), ⟨_, rfl⟩, fun b o hb => ?_, as_ ++ [a], by simp [al], ?_⟩
    ·rw [af_ (ag_ hb hD), af_ (ag_ hb fa)]
     exact s1 _ _ hb
    ·have an : a ∉ as_ := fun h => by
      obtain ⟨p, hp, e⟩ := List.mem_iff_getElem.mp h
      have := hT.tn.row p a (by rw [List.getElem?_eq_getElem hp, e])
      rw [na] at this
      cases this
     refine ⟨⟨by rw [ac_, List.map_append]; rfl, by simp [al], fun p b hb => ?_⟩, ?_, ?_, hD, fun b hb => ?_⟩
     ·have hbD : b ≠ D := fun e => by
       rw [e] at hb
       rcases List.mem_append.mp (List.mem_of_getElem? hb) with h | h
       ·exact hT.nl h
       ·exact Da (List.mem_singleton.mp h)
      rw [af_ hbD]
      by_cases hp : p < as_.length
      ·rw [List.getElem?_append_left hp] at hb
       have e := hT.tn.row p b hb
       rw [af_ (fun z => by rw [z, na] at e; cases e), e, jr_, show ([] : List Nat) :: List.replicate i [] = List.replicate (i + 1) [] from rfl, jr_]
      ·have e : b = a := by
        rw [List.getElem?_append_right (by omega)] at hb
        have := List.mem_of_getElem? hb
        exact List.mem_singleton.mp this
       rw [e, ac_, show ([] : List Nat) :: List.replicate i [] = List.replicate (i + 1) [] from rfl, jr_]
       rfl
     ·exact List.nodup_append.mpr ⟨hT.nd, by simp, fun x hx y hy e => an (by rw [← List.mem_singleton.mp hy, ← e]; exact hx)⟩
     ·intro h
      rcases List.mem_append.mp h with h | h
      ·exact hT.nl h
      ·exact Da (List.mem_singleton.mp h)
     ·rcases List.mem_append.mp hb with h | h
      ·exact hT.fa b h
      ·rw [List.mem_singleton.mp h]; exact fa
   ·have e : i = Pp := by omega
    subst e
    refine .inl ⟨Nat.le_refl _, ?_⟩
    walk_at "rd"
    refine ⟨by omega, by omega, ?_⟩
    rw [show Int.toNat (W : Int) = W by omega]
    refine bK_ (fun v σ H2 => ∃ (z : Int) (e5 e6 e7 e8 e9 e10 e11 e12 : Option V) (as_ : List Addr) (T : List (List Nat)), σ = [some (.int z), some (.int i), some (.int W), some (.int 10), some (.ref D), e5, e6, e7, e8, e9, e10, e11, e12] ∧ Same H H2 ∧ To H H2 D as_ T ∧ Gr i v T) ⟨z, none, none, none, none, none, none, none, none, as_, _, rfl, s1, hT, mb_ i⟩ ?_ ?_
    ·rintro v σ H2 hv ⟨z, e5, e6, e7, e8, e9, e10, e11, e12, as_, T, rfl, s2, hT, gr⟩
     have hv' : v < W := hv
     have gc := gr.corners
     have gl := gr.len
     have gm := gr.most
     walk_at "rd"
     refine ⟨D, as_, T, i, rfl, hT.tn, by omega, by omega, fun R H3 s3 repR => ?_⟩
     obtain ⟨_, vs, e0, hR', hvs⟩ := id repR
     cases e0
     obtain ⟨nR, hR⟩ := aP_ hR'
     have hvl : vs.length = (corners T i).length := by rw [hvs.length, List.length_map]
     have c0 : 0 < (corners T i).length := by
      have : (0, 0) ∈ corners T i := eb_.mpr ⟨by show 0 < T.length; omega, by show 0 < _ + (if 0 < i then 1 else 0); rw [if_pos (by omega)]; omega⟩
      exact List.length_pos_of_mem this
     obtain ⟨j, hj, jl⟩ : ∃ j : Nat, z % (vs.length : Int) = j ∧ j < vs.length := ⟨(z % (vs.length : Int)).toNat, by have := Int.emod_nonneg z (show (vs.length : Int) ≠ 0 by omega); omega, by have := Int.emod_nonneg z (show (vs.length : Int) ≠ 0 by omega); have := Int.emod_lt_of_pos z (show (0 : Int) < (vs.length : Int) by omega); omega⟩
     obtain ⟨xs, ex, hcs⟩ := mO_ (Reps.mono bb_ _ hvs)
     have ec : (corners T i)[j]? = some ((corners T i)[j]'(by omega)) := List.getElem?_eq_getElem _
     obtain ⟨q, hxq, hq⟩ := hcs.get ec
     have ic : IsC T i ((corners T i)[j]'(by omega)) := eb_.mp (List.getElem_mem _)
     generalize (corners T i)[j]'(by omega) = c at *
     have lg : ((vs.length : Int)).natAbs.log2 < 9000 := by
      have : ((vs.length : Int)).natAbs ≤ 1000 := by omega
      by_cases h0 : ((vs.length : Int)).natAbs = 0
      ·rw [h0]; decide
      ·rw [Nat.log2_lt h0]
       exact Nat.lt_of_le_of_lt this (by decide +kernel)
     refine ⟨R, rfl, vs, .inl hR, by omega, R, rfl, vs, hR, .ref q, ?_, R, rfl, vs, .inl hR, by omega, lg, by decide, by decide, by decide +kernel, ?_⟩
     ·rw [hj]
      refine b8_ (by omega) ?_
      rw [Int.toNat_natCast, ex, List.getElem?_map, hxq]
      rfl
     have hT3 := hT.mono s3
     have s23 := s2.trans s3
     have cb : c.2 ≤ rl T c.1 := by
      have := ic.2
      split at this <;> omega
     refine both (as_.map V.ref) (.inl hT3.tn.top) (fun h1 h2 => ?_) ?_
     ·obtain ⟨a, ea, at0, ra⟩ := hT3.tn.at_ ic.1
      have rw30 : rl T c.1 ≤ 30 := by
       have := rl_le T c.1
       rw [gr.tot] at this
       omega
      have rln : (T.getD c.1 []).length = rl T c.1 := rfl
      have Da : D ≠ a := fun e => hT3.nl (by rw [e]; exact List.mem_of_getElem? ea)
      have fa := hT3.fa a (List.mem_of_getElem? ea)
      refine ⟨q, rfl, _, hq, _, atI_0, _, _, rfl, hT3.tn.top, .ref a, at0, .inl ⟨_, .inl (.inl ra)⟩, q, rfl, _, hq, _, atI_1, a, rfl, _, _, rfl, ra, by omega, by rw [List.length_map, rln]; omega, by rw [List.length_map, rln]; omega, ?_⟩
      rw [Int.toNat_natCast, js_]
      have hT4 := hT3.ins ea v
      have s4 : Same H (upd H3 a (.lst ((RimT.ins (T.getD c.1 []) c.2 v).map fun n : Nat => V.int n))) := fun b o hb => by
       rw [af_ (ag_ hb fa)]
       exact s23 _ _ hb
      generalize upd H3 a (.lst ((RimT.ins (T.getD c.1 []) c.2 v).map fun n : Nat => V.int n)) = H4 at *
      refine ⟨.inl ⟨_, .inl (.inl hT4.tn.top)⟩, by decide, fun p np => ?_⟩
      have Dp : D ≠ p := ag_ hT4.tn.top np
      have hT5 := hT4.more s4 np [v]
      refine ⟨as_.map V.ref, by rw [af_ Dp]; exact hT4.tn.top, small1000 (by rw [List.length_map]; have := hT4.tn.len; rw [aI_] at this; omega), ?_⟩
      have e1 : as_.map V.ref ++ [V.ref p] = (as_ ++ [p]).map V.ref := by simp
      have e2 : [V.int (0 + (v : Nat))] = [v].map fun n : Nat => V.int n := by simp
      rw [e1, e2]
      refine ⟨fun b o hb => ?_, _, _, hT5, ni_ gr ic.1 (by rw [List.length_map] at h2; have := hT3.tn.len; omega)⟩
      rw [af_ (ag_ hb hT.fl), af_ (ag_ hb (s4.free np))]
      exact s4 _ _ hb
     ·have rl30 : ∀ p, rl T p ≤ 30 := fun p => by
       have := rl_le T p
       rw [gr.tot] at this
       omega
      refine ⟨Nat, _, _, fun n : Nat => .inl (n : Int), D, as_, T, rfl, fun _ => rfl, fun a b h => Int.ofNat.inj (Sum.inl.inj h), hT3.tn, gr.tw, by omega, rl30, fun M H4 s4 nM hM => ?_⟩
      refine ⟨_, _, _, D, M, q, as_, T, i, c, rfl, hT3.tn.mono s4, hM, gr.tw, by omega, gl, s4 _ _ hq, ic, by omega, fun R2 H5 xs2 cs2 s5 nR2 hR2 hcs2 ne2 len2 all2 _ _ _ => ?_⟩
      have x2l : xs2.length = cs2.length := hcs2.len
      have l2 : 0 < cs2.length := List.length_pos_iff.mpr ne2
      have lg2 : (((xs2.map V.ref).length : Int)).natAbs.log2 < 9000 := by
       rw [List.length_map]
       by_cases h0 : ((xs2.length : Int)).natAbs = 0
       ·rw [h0]; decide
       ·rw [Nat.log2_lt h0]
        exact Nat.lt_of_le_of_lt (show ((xs2.length : Int)).natAbs ≤ 1000 by omega) (by decide +kernel)
      generalize hy : z / (vs.length : Int) / 3 = y
      obtain ⟨j2, hj2, jl2⟩ : ∃ j : Nat, y % ((xs2.map V.ref).length : Int) = j ∧ j < xs2.length := by
       rw [List.length_map]
       have a1 := Int.emod_nonneg y (show (xs2.length : Int) ≠ 0 by omega)
       have a2 := Int.emod_lt_of_pos y (show (0 : Int) < (xs2.length : Int) by omega)
       exact ⟨(y % (xs2.length : Int)).toNat, by omega, by omega⟩
      have ec2 : cs2[j2]? = some (cs2[j2]'(by omega)) := List.getElem?_eq_getElem _
      obtain ⟨q2, hxq2, hq2⟩ := hcs2.get ec2
      have ic2 : IsC T i (cs2[j2]'(by omega)) := all2 _ (List.getElem_mem _)
      generalize cs2[j2]'(by omega) = d at *
      have hq5 := s5 _ _ (s4 _ _ hq)
      refine ⟨R2, rfl, _, .inl hR2, by rw [List.length_map]; omega, R2, rfl, _, hR2, .ref q2, ?_, R2, rfl, _, .inl hR2, by rw [List.length_map]; omega, lg2, by decide, fun p np => ⟨q, rfl, q2, rfl, (c.1, c.2), (Same.new np) _ _ hq5, (d.1, d.2), (Same.new np) _ _ hq2, fun l zs nl hzs => ⟨⟨_, .inl (.inl ac_)⟩, ?_⟩⟩⟩
      ·rw [hj2]
       refine b8_ (by omega) ?_
       rw [Int.toNat_natCast, List.getElem?_map, hxq2]
       rfl
      obtain ⟨r1, r2, a1, a2, ez, g1, g2, i1, i2⟩ : ∃ (r1 r2 : Addr) (a1 a2 : Nat × Nat), zs = [V.ref r1, V.ref r2] ∧ H5 r1 = some (cV a1) ∧ H5 r2 = some (cV a2) ∧ IsC T i a1 ∧ IsC T i a2 := by
       rcases hzs with e | e
       ·exact ⟨q, q2, c, d, e, hq5, hq2, ic, ic2⟩
       ·exact ⟨q2, q, d, c, e, hq2, hq5, ic2, ic⟩
      have S6 : Same H5 (upd (upd H5 p (HO.lst [V.ref q, V.ref q2])) l (HO.lst zs)) := (Same.new np).trans (Same.new nl)
      have hT6 := ((hT3.mono s4).mono s5).mono S6
      have s6 : Same H (upd (upd H5 p (HO.lst [V.ref q, V.ref q2])) l (HO.lst zs)) := s23.trans (s4.trans (s5.trans S6))
      have hl6 := ac_ (H := upd H5 p (HO.lst [V.ref q, V.ref q2])) (a := l) (o := HO.lst zs)
      have h61 := S6 _ _ g1
      have h62 := S6 _ _ g2
      have lT : l ∉ as_ := fun z => by
       obtain ⟨p', hp', e⟩ := List.mem_iff_getElem.mp z
       have e2 := ((hT3.mono s4).mono s5).tn.row p' l (by rw [List.getElem?_eq_getElem hp', e])
       have e3 := (Same.new np (o := HO.lst [V.ref q, V.ref q2])) _ _ e2
       rw [nl] at e3
       cases e3
      generalize upd (upd H5 p (HO.lst [V.ref q, V.ref q2])) l (HO.lst zs) = H6 at *
      have notT : ∀ r a, H6 r = some (cV a) → r ∉ as_ := fun r a hr z => by
       obtain ⟨p', hp', e⟩ := List.mem_iff_getElem.mp z
       have e2 := hT6.tn.row p' r (by rw [List.getElem?_eq_getElem hp', e])
       rw [hr] at e2
       cases e2
      subst ez
      have step : ∀ (T' : List (List Nat)) (a : Nat × Nat) (H7 : Hp), T'.length = T.length → (∀ p, rl T p ≤ rl T' p) → (∀ p, rl T' p ≤ 40) → IsC T i a → To H H7 D as_ T' → Same H H7 → ∃ ad, atI (as_.map V.ref) (a.1 : Int) = some (.ref ad) ∧ H7 ad = some (.lst ((T'.getD a.1 []).map fun n : Nat => V.int n)) ∧ (a.2 : Nat) ≤ (T'.getD a.1 []).length ∧ (T'.getD a.1 []).length < 1000 ∧ ad ∈ as_ ∧ To H (upd H7 ad (.lst ((RimT.ins (T'.getD a.1 []) a.2 v).map fun n : Nat => V.int n))) D as_ (insAt T' a v) ∧ Same H (upd H7 ad (.lst ((RimT.ins (T'.getD a.1 []) a.2 v).map fun n : Nat => V.int n))) := fun T' a H7 hl hm h40 ia hT7 s7 => by
       obtain ⟨ad, ea, at0, ra⟩ := hT7.tn.at_ (p := a.1) (by rw [hl]; exact ia.1)
       have := ia.2
       have m1 := hm a.1
       have m2 := h40 a.1
       have ab : a.2 ≤ rl T a.1 := by split at this <;> omega
       refine ⟨ad, at0, ra, by unfold rl at *; omega, by unfold rl at *; omega, List.mem_of_getElem? ea, hT7.ins ea v, fun b o hb => ?_⟩
       rw [af_ (ag_ hb (hT7.fa ad (List.mem_of_getElem? ea)))]
       exact s7 _ _ hb
      have lenS : ∀ (T' : List (List Nat)) (a : Nat × Nat) (p : Nat), rl (insAt T' a v) p ≤ rl T' p + 1 := fun T' a p => by
       unfold insAt rl
       rw [List.getD_eq_getElem?_getD, List.getD_eq_getElem?_getD, List.getElem?_set]
       by_cases h : a.1 = p
       ·subst h
        by_cases h2 : a.1 < T'.length
        ·simp only [if_true, h2, Option.getD_some, e8_]
         rw [List.getD_eq_getElem?_getD]
         exact Nat.le_refl _
        ·simp [h2, List.getElem?_eq_none (Nat.not_lt.mp h2)]
       ·simp [h]
      refine i9_ (xs := [V.ref r1, V.ref r2]) (fun t σ H7 => ∃ (e11 e12 : Option V), σ = [some (.int (y / ((xs2.map V.ref).length : Int))), some (.int i), some (.int W), some (.int 10), some (.ref D), some (.int (0 + (v : Nat))), some (.ref R), some (.ref q), some (.int (z / (vs.length : Int) % 3)), some (.ref R2), some (.ref q2), e11, e12] ∧ Same H H7 ∧ (∀ b o, b ∉ as_ → H6 b = some o → H7 b = some o) ∧ To H H7 D as_ (if t = 0 then T else if t = 1 then insAt T a1 v else insAt (insAt T a1 v) a2 v)) ⟨e11, e12, rfl, s6, fun b o _ h => h, hT6⟩ ?_ ?_ ?_
      ·rintro t σ H7 ht ⟨e11, e12, rfl, s7, k7, hT7⟩
       exact .inl (.inl (k7 _ _ lT hl6))
      ·rintro t x σ H7 hx ⟨e11, e12, rfl, s7, k7, hT7⟩
       match t, hx with
       | 0, hx =>
        cases hx
        have hr1 := k7 _ _ (notT _ _ h61) h61
        obtain ⟨ad, at0, ra, ab, a1000, ain, hT8, s8⟩ := step T a1 H7 rfl (fun _ => Nat.le_refl _) (fun p => by have := rl30 p; omega) i1 hT7 s7
        walk_at "rd"
        refine ⟨_, SqT.of hr1, rfl, _, _, rfl, _, _, rfl, rfl, _, _, rfl, hT7.tn.top, .ref ad, at0, .inl ⟨_, .inl (.inl ra)⟩, ad, rfl, _, _, rfl, ra, by omega, by rw [List.length_map, Int.toNat_natCast]; exact ab, by rw [List.length_map]; exact a1000, ?_⟩
        rw [Int.toNat_natCast, js_]
        exact ⟨s8, fun b o hb h => by rw [af_ (fun e => hb (by rw [e]; exact ain))]; exact k7 b o hb h, hT8⟩
       | 1, hx =>
        cases hx
        have hr2 := k7 _ _ (notT _ _ h62) h62
        obtain ⟨ad, at0, ra, ab, a1000, ain, hT8, s8⟩ := step (insAt T a1 v) a2 H7 (aI_ ..) (fun p => fR_ v p) (fun p => by have := rl30 p; have := lenS T a1 p; omega) i2 hT7 s7
        walk_at "rd"
        refine ⟨_, SqT.of hr2, rfl, _, _, rfl, _, _, rfl, rfl, _, _, rfl, hT7.tn.top, .ref ad, at0, .inl ⟨_, .inl (.inl ra)⟩, ad, rfl, _, _, rfl, ra, by omega, by rw [List.length_map, Int.toNat_natCast]; exact ab, by rw [List.length_map]; exact a1000, ?_⟩
        rw [Int.toNat_natCast, js_]
        exact ⟨s8, fun b o hb h => by rw [af_ (fun e => hb (by rw [e]; exact ain))]; exact k7 b o hb h, hT8⟩
      ·rintro σ H7 ⟨e11, e12, rfl, s7, k7, hT7⟩
       exact ⟨_, _, _, _, _, _, _, _, _, rfl, s7, as_, _, hT7, oa_ gr i1.1 i2.1⟩
    ·rintro σ H2 ⟨z, e5, e6, e7, e8, e9, e10, e11, e12, as_, T, rfl, s2, hT, gr⟩
     walk_at "rd"
     exact ⟨by decide, fun p np => k p D as_ T z _ (s2.trans (Same.new np)) ac_ (hT.mono (Same.new np)) gr⟩
def sgs : List Nat := (Str.ofString "abcdefghijklmnopqrstuvwxyz0123456789").cps.toList
theorem lu_ : sgs.length = 36 := by decide +kernel
theorem oi_ : sgs.Nodup := by decide +kernel
def sg (i : Nat) : Nat := sgs.getD i 0
theorem sg_at {i : Nat} (h : i < 36) : sgs[i]? = some (sg i) := by
 unfold sg
 rw [List.getD_eq_getElem?_getD, List.getElem?_eq_getElem (by rw [lu_]; exact h)]
 rfl
theorem lv_ {i j : Nat} (hi : i < 36) (hj : j < 36) (h : sg i = sg j) : i = j := (List.getElem?_inj (by rw [lu_]; exact hi) oi_).mp (by rw [sg_at hi, sg_at hj, h])
theorem j6_ {z : Int} (h0 : 0 ≤ z) (h1 : z < 36) : atI sgs z = some (sg z.toNat) := b8_ h0 (sg_at (by omega))
def one (c : Nat) : Str := ⟨#[c]⟩
def nmA (hd tl : Str) (fi k : Nat) : Str := hd ++ one (sg ((fi + 7 * k) % 36)) ++ tl
theorem mh_ (a b : Str) : (a ++ b).cps.toList = a.cps.toList ++ b.cps.toList := by
 show (a.cps ++ b.cps).toList = _
 simp
theorem nu_ {hd tl : Str} {fi a b : Nat} (ha : a < 16) (hb : b < 16) (h : nmA hd tl fi a = nmA hd tl fi b) : a = b := by
 have e := congrArg (fun s : Str => s.cps.toList) h
 simp only [nmA, mh_] at e
 have e2 := List.append_cancel_right e
 have e3 := List.append_cancel_left e2
 have e4 : sg ((fi + 7 * a) % 36) = sg ((fi + 7 * b) % 36) := (List.cons.inj e3).1
 have := lv_ (Nat.mod_lt _ (by decide)) (Nat.mod_lt _ (by decide)) e4
 omega
def rep (c m : Nat) : List Nat := List.replicate m c
def nmB (fi k : Nat) : Str := ⟨(List.replicate (1 + k % 7) (sg fi) ++ if 6 < k then [sg ((fi + 1 + k / 7) % 36)] else []).toArray⟩
theorem nv_ {fi a b : Nat} (hf : fi < 36) (ha : a < 16) (hb : b < 16) (h : nmB fi a = nmB fi b) : a = b := by
 have e0 := congrArg (fun s : Str => s.cps.toList) h
 have e : List.replicate (1 + a % 7) (sg fi) ++ (if 6 < a then [sg ((fi + 1 + a / 7) % 36)] else []) = List.replicate (1 + b % 7) (sg fi) ++ (if 6 < b then [sg ((fi + 1 + b / 7) % 36)] else []) := by simpa [nmB] using e0
 have ne : ∀ c, 6 < c → c < 16 → sg ((fi + 1 + c / 7) % 36) ≠ sg fi := fun c h1 h2 z => by
  have := lv_ (Nat.mod_lt _ (by decide)) hf z
  omega
 have len := congrArg List.length e
 simp only [List.length_append, List.length_replicate] at len
 have last := congrArg List.getLast? e
 by_cases h1 : 6 < a <;> by_cases h2 : 6 < b
 ·rw [if_pos h1, if_pos h2] at last len
  rw [List.getLast?_append, List.getLast?_append] at last
  have e4 : sg ((fi + 1 + a / 7) % 36) = sg ((fi + 1 + b / 7) % 36) := by simpa using last
  have := lv_ (Nat.mod_lt _ (by decide)) (Nat.mod_lt _ (by decide)) e4
  simp at len
  omega
 ·rw [if_pos h1, if_neg h2] at last
  rw [List.getLast?_append, List.append_nil, Nat.add_comm 1 (b % 7), List.replicate_succ', List.getLast?_append] at last
  exact absurd (by simpa using last) (ne a h1 ha)
 ·rw [if_neg h1, if_pos h2] at last
  rw [List.append_nil, Nat.add_comm 1 (a % 7), List.replicate_succ', List.getLast?_append, List.getLast?_append] at last
  exact absurd (by simpa using last.symm) (ne b h2 hb)
 ·rw [if_neg h1, if_neg h2] at len
  simp at len
  omega
theorem j7_ {f : Nat → Str} {n : Nat} (h : ∀ a b, a < n → b < n → f a = f b → a = b) : ((List.range n).map f).Nodup := by
 unfold List.Nodup
 rw [List.pairwise_map]
 exact List.Pairwise.imp_of_mem (fun {a b} ha hb ne e => ne (h a b (List.mem_range.mp ha) (List.mem_range.mp hb) e)) List.nodup_range
theorem mul_one {c : Nat} : ∀ m : Nat, 1 ≤ m → m ≤ 7 → MulOk (one c) (m : Int) ∧ Txt.mul (one c) (m : Int) = ⟨(List.replicate m c).toArray⟩
 | 0, h, _ => absurd h (by decide)
 | 1, _, _ => ⟨⟨by decide, fun _ h => absurd h (by simp), fun _ h => absurd h (by simp)⟩, rfl⟩
 | 2, _, _ => ⟨⟨by decide, fun _ _ => (by show ¬ ((1 : Int) > _); decide), fun _ _ => (by show Builtin.Str.tooLong 2 = false; decide +kernel)⟩, rfl⟩
 | 3, _, _ => ⟨⟨by decide, fun _ _ => (by show ¬ ((1 : Int) > _); decide), fun _ _ => (by show Builtin.Str.tooLong 3 = false; decide +kernel)⟩, rfl⟩
 | 4, _, _ => ⟨⟨by decide, fun _ _ => (by show ¬ ((1 : Int) > _); decide), fun _ _ => (by show Builtin.Str.tooLong 4 = false; decide +kernel)⟩, rfl⟩
 | 5, _, _ => ⟨⟨by decide, fun _ _ => (by show ¬ ((1 : Int) > _); decide), fun _ _ => (by show Builtin.Str.tooLong 5 = false; decide +kernel)⟩, rfl⟩
 | 6, _, _ => ⟨⟨by decide, fun _ _ => (by show ¬ ((1 : Int) > _); decide), fun _ _ => (by show Builtin.Str.tooLong 6 = false; decide +kernel)⟩, rfl⟩
 | 7, _, _ => ⟨⟨by decide, fun _ _ => (by show ¬ ((1 : Int) > _); decide), fun _ _ => (by show Builtin.Str.tooLong 7 = false; decide +kernel)⟩, rfl⟩
 | m + 8, _, h => absurd h (by omega)
def opt (x : Str) (b : Bool) : Str := if b then x else Str.empty
theorem nw_ (x : Str) (p : Prop) [Decidable p] : MulOk x (if p then 1 else 0) ∧ Txt.mul x (if p then 1 else 0) = opt x (decide p) := by
 by_cases h : p
 ·rw [if_pos h, show decide p = true from decide_eq_true h]
  exact ⟨⟨by decide, fun _ h => absurd h (by simp), fun _ h => absurd h (by simp)⟩, rfl⟩
 ·rw [if_neg h, show decide p = false from decide_eq_false h]
  exact ⟨⟨by decide, fun h => absurd (by decide) h, fun h => absurd (by decide) h⟩, rfl⟩
theorem oj_ (fi k : Nat) : (⟨(List.replicate (1 + k % 7) (sg fi)).toArray⟩ : Str) ++ opt (one (sg ((fi + 1 + k / 7) % 36))) (decide (6 < k)) = nmB fi k := by
 unfold nmB opt
 by_cases h : 6 < k
 ·rw [if_pos (decide_eq_true h), if_pos h]
  show (⟨(List.replicate (1 + k % 7) (sg fi)).toArray ++ [sg ((fi + 1 + k / 7) % 36)].toArray⟩ : Str) = _
  rw [List.append_toArray]
 ·rw [if_neg (by simp [h]), if_neg h]
  show (⟨_ ++ #[]⟩ : Str) = _
  simp
theorem cf_ {H : Hp} : ∀ (ts : List Str), Reps H (ts.map V.str) (ts.map Dt.str)
 | [] => rfl
 | t :: ts => ⟨_, _, rfl, rfl, cf_ ts⟩
theorem eK_ {H : Hp} : ∀ {us : List V} {ts : List Str}, Reps H us (ts.map Dt.str) → us = ts.map V.str
 | us, [], h => h
 | us, n :: ns, ⟨x, r, e, hx, hr⟩ => by
  cases hx
  rw [e, eK_ hr]
  rfl
theorem j8_ {B H : Hp} {D : Addr} {ts : List Str} (hB : B D = none) (h : H D = some (.lst (ts.map V.str))) : Rep (newH B H) (.ref D) (.lst (ts.map Dt.str)) := ⟨D, _, rfl, by rw [bZ_ hB]; exact h, cf_ ts⟩
abbrev s_Lnames : Stmt := stN 37
theorem aO_ : FnScope ["_law_big_here", "_law_many", "_law_signs", "_law_size", "_law_spot", "_law_word", "_law_rest", "_law_k", "_law_first", "_law_head", "_law_tail", "_law_names_here", "_law_more"] ["_law_big_here", "_law_many"] (defScope s_Lnames) := ⟨rfl, rfl, rfl, by decide +kernel, rfl, by decide +kernel, by decide +kernel⟩
theorem ef_ : LK s_Lnames "_law_big_here" .local := by decide +kernel
theorem gt_ : LK s_Lnames "_law_many" .local := by decide +kernel
theorem da_ : LK s_Lnames "_law_signs" .cell := by decide +kernel
theorem eg_ : LK s_Lnames "_law_size" .local := by decide +kernel
theorem eh_ : LK s_Lnames "_law_spot" .local := by decide +kernel
theorem cg_ : LK s_Lnames "_law_word" .local := by decide +kernel
theorem bH_ : LK s_Lnames "_law_rest" .local := by decide +kernel
theorem ch_ : LK s_Lnames "_law_k" .local := by decide +kernel
theorem ei_ : LK s_Lnames "_law_first" .cell := by decide +kernel
theorem jv_ : LK s_Lnames "_law_head" .cell := by decide +kernel
theorem iH_ : LK s_Lnames "_law_tail" .cell := by decide +kernel
theorem cu_ : LK s_Lnames "_law_names_here" .local := by decide +kernel
theorem fE_ : LK s_Lnames "_law_more" .local := by decide +kernel
theorem hJ_ : LK s_Lnames "int" .globalImplicit := by decide +kernel
theorem ci_ : LK s_Lnames "range" .globalImplicit := by decide +kernel
def sp_names : Sp := fun vs H Q _ => ∃ (z : Int) (n : Nat), vs = [.int z, .int n] ∧ n ≤ 16 ∧ ∀ D (nms : List Str) H', Same H H' → Rep (newH H H') (.ref D) (.lst (nms.map Dt.str)) → nms.length = n → nms.Nodup → Q (.ref D) H'
theorem lw_ (T : Txt K mg) (F : Fn0 K mg "_law_names" s_Lnames) : Cal P w K mg base "_law_names" ["_law_big_here", "_law_many"] 1 sp_names := by
 refine aJ_ F aO_ (fun _ _ _ _ _ _ us hl => match us, hl with | [_, _], _ => rfl) ?len ?body
 case len => rintro vs H Q E ⟨a, b, rfl, _⟩; rfl
 case body =>
  intro f cdv A outer s H vs Q E hr h
  obtain ⟨z, n, rfl, n16, k⟩ := h
  refine' ⟨_, ?D, ?R⟩
  case D =>
   refine' ad_ ?g1 ?g2
   case' g1 => refine' e6_ (i := 2) aO_.nd rfl da_ rfl kK_ rfl
   case' g2 => refine' ad_ ?g4 ?g5
   case' g4 => refine' ai_ (i := 3) aO_.nd rfl eg_ ?g6
   case' g6 => refine' pe_op aN_ ab_ ?g8
   case' g8 => refine' pe_op aG_ (pv1 0 rfl ef_) ab_
   case' g5 => refine' ad_ ?g11 ?g12
   case' g11 => refine' ai_ (i := 4) aO_.nd rfl eh_ ?g13
   case' g13 => refine' pe_op aG_ ?g14 (pv1 3 rfl eg_)
   case' g14 => refine' pe_op au_ (pv1 0 rfl ef_) ab_
   case' g12 => refine' ad_ ?g18 ?g19
   case' g18 => refine' ai_ (i := 5) aO_.nd rfl cg_ kK_
   case' g19 => refine' ad_ ?g21 ?g22
   case' g21 => refine' ai_ (i := 6) aO_.nd rfl bH_ ?g23
   case' g23 => refine' pe_op au_ (pv1 0 rfl ef_) ab_
   case' g22 => refine' ad_ ?g26 ?g27
   case' g26 => refine' bg_ PassesOwn.never rfl ?g28 ?g29 ?g30
   case' g28 => refine' aS_ ci_ T.n_range ?g31
   case' g31 => refine' pa_c (pv1 3 rfl eg_) aa_
   case g29 => exact ak_ (i := 7) aO_.nd rfl ch_
   case' g30 => refine' ad_ ?g34 ?g35
   case' g34 => refine' ai_ (i := 5) aO_.nd rfl cg_ ?g36
   case' g36 => refine' pe_op dQ_ (pv1 5 rfl cg_) ?g38
   case' g38 => refine' pe_ix jL_ (pvc 2 rfl da_) ?g40 (fun _ _ => rfl)
   case' g40 => refine' pe_op aG_ (pv1 6 rfl bH_) ab_
   case' g35 => refine' ae_ ?g43
   case' g43 => refine' ai_ (i := 6) aO_.nd rfl bH_ ?g44
   case' g44 => refine' pe_op au_ (pv1 6 rfl bH_) ab_
   case' g27 => refine' ad_ ?g47 ?g48
   case' g47 => refine' e6_ (i := 8) aO_.nd rfl ei_ rfl ?g49 rfl
   case' g49 => refine' pe_op aG_ (pv1 6 rfl bH_) ab_
   case' g48 => refine' ad_ ?g52 ?g53
   case' g52 => refine' dw_ ?g54 ?g55
   case' g54 => refine' aH_ ?g56
   case' g56 => refine' pa_c ?g57 ?g58
   case' g57 => refine' ex_ mK_ (pv1 5 rfl cg_) ?g60 ?g61
   case g60 => exact fY_
   case' g61 => refine' fZ_ (pv1 4 rfl eh_)
   case' g58 => refine' pa_c ?g63 aa_
   case' g63 => refine' ex_ mK_ (pv1 5 rfl cg_) ?g66 ?g67
   case' g66 => refine' fZ_ ?g68
   case' g68 => refine' pe_op aN_ (pv1 4 rfl eh_) ab_
   case g67 => exact fY_
   case' g55 => refine' bc_ (K := K) (n := 2) rfl rfl ?g71
   case' g71 => refine' ap_ ?g72 ?g73
   case g72 => exact ez_ (i := 9) aO_.nd rfl jv_ rfl
   case' g73 => refine' ap_ ?g74 ba_
   case g74 => exact ez_ (i := 10) aO_.nd rfl iH_ rfl
   case' g53 => refine' ad_ ?g76 ?g77
   case' g76 => refine' f5_ (i := 11) (N' := ["_law_k", "_law_head", "_law_signs", "_law_first", "_law_tail"]) (ix := [none, some 9, some 2, some 8, some 10]) rfl rfl aO_.nd rfl cu_ rfl (bR_ ?g78) ?g79 (fun _ _ _ => ?g80) (fun _ _ _ => ?g81) (fun _ _ _ => ?g82)
   case g78 => exact (by show scpB (defScope s_Lnames) ["_law_big_here", "_law_many", "_law_signs", "_law_size", "_law_spot", "_law_word", "_law_rest", "_law_k", "_law_first", "_law_head", "_law_tail", "_law_names_here", "_law_more"] _ _ _ = true; decide +kernel)
   case' g79 => refine' aS_ ci_ T.n_range ?g83
   case' g83 => refine' pa_c (pv1 1 rfl gt_) aa_
   case g80 => exact ak_ (i := 0) (by show List.Nodup (["_law_k", "_law_head", "_law_signs", "_law_first", "_law_tail"] : List Str); decide +kernel) rfl rfl
   case g81 => exact ct_
   case' g82 => refine' pe_op dQ_ ?g86 (pvc 4 rfl rfl)
   case' g86 => refine' pe_op dQ_ (pvc 1 rfl rfl) ?g89
   case' g89 => refine' pe_ix jL_ (pvc 2 rfl rfl) ?g91 (fun _ _ => rfl)
   case' g91 => refine' pe_op aG_ ?g92 ab_
   case' g92 => refine' pe_op aN_ (pvc 3 rfl rfl) ?g95
   case' g95 => refine' pe_op jJ_ ab_ (pv1 0 rfl rfl)
   case' g77 => refine' ad_ ?g98 ?g99
   case' g98 => refine' ps_if ?g100 ?g101 aL_
   case' g100 => refine' az_ op_eq ?g103 ab_ (nomark _)
   case' g103 => refine' pe_op aG_ ?g105 ab_
   case' g105 => refine' pe_op au_ (pv1 6 rfl bH_) ab_
   case' g101 => refine' ad_ ?g109 ?g110
   case' g109 => refine' ai_ (i := 11) aO_.nd rfl cu_ ?g111
   case' g111 => refine' cG_ aa_
   case' g110 => refine' ae_ ?g113
   case' g113 => refine' bg_ PassesOwn.never rfl ?g114 ?g115 ?g116
   case' g114 => refine' aS_ ci_ T.n_range ?g117
   case' g117 => refine' pa_c (pv1 1 rfl gt_) aa_
   case g115 => exact ak_ (i := 7) aO_.nd rfl ch_
   case' g116 => refine' ad_ ?g120 ?g121
   case' g120 => refine' ai_ (i := 12) aO_.nd rfl fE_ ?g122
   case' g122 => refine' pe_ix jL_ (pvc 2 rfl da_) ?g124 (fun _ _ => rfl)
   case' g124 => refine' pe_op aG_ ?g125 ab_
   case' g125 => refine' pe_op aN_ ?g127 ?g128
   case' g127 => refine' pe_op aN_ (pvc 8 rfl ei_) ab_
   case' g128 => refine' pe_op au_ (pv1 7 rfl ch_) ab_
   case' g121 => refine' ae_ ?g133
   case' g133 => refine' bv_ ?g134
   case' g134 => refine' pe_bm PySem.F.plainAttrs_list PySem.F.slot_list_append PySem.F.type_list_append bi_ (pv1 11 rfl cu_) ?g136
   case' g136 => refine' pa_c ?g137 aa_
   case' g137 => refine' pe_op dQ_ ?g139 ?g140
   case' g139 => refine' pe_op g4_ ?g141 ?g142
   case' g141 => refine' pe_ix jL_ (pvc 2 rfl da_) (pvc 8 rfl ei_) (fun _ _ => rfl)
   case' g142 => refine' pe_op aN_ ab_ ?g146
   case' g146 => refine' pe_op aG_ (pv1 7 rfl ch_) ab_
   case' g140 => refine' pe_op g4_ (pv1 12 rfl fE_) ?g150
   case' g150 => refine' dR_ h2_ hJ_ T.n_int k5_ ?g151
   case' g151 => refine' pa_c ?g152 aa_
   case' g152 => refine' e4_ op_gt (pv1 7 rfl ch_) ab_ (nomark _)
   case' g99 => refine' ae_ ?g156
   case' g156 => refine' aq_ (pv1 11 rfl cu_)
  case R =>
   walk_at "rd"
   have m8 := Int.emod_nonneg z (show (8 : Int) ≠ 0 by decide)
   have l8 := Int.emod_lt_of_pos z (show (0 : Int) < 8 by decide)
   refine ⟨by decide, by decide, by decide +kernel, by omega, by decide, by decide +kernel, by omega, by omega, ?_⟩
   have sz : 100000 ≤ sizeLine := by rw [sizeLine_eq]; decide
   have sl : (Str.ofString "abcdefghijklmnopqrstuvwxyz0123456789").length ≤ sizeLine := Nat.le_trans (by decide +kernel) sz
   have e1 : ∀ c, (one c).length = 1 := fun _ => rfl
   generalize z / 8 % (1 + z % 8) = spot
   obtain ⟨size, hsize, s8⟩ : ∃ m : Nat, (1 + z % 8).toNat = m ∧ m ≤ 8 := ⟨_, rfl, by omega⟩
   rw [hsize]
   generalize hz8 : 1 + z % 8 = z8
   generalize z / 64 = r0
   refine bK_ (fun i σ H' => ∃ (word : Str) (rest : Int) (e7 : Option V), σ = [some (.int z), some (.int n), some (.str (Str.ofString "abcdefghijklmnopqrstuvwxyz0123456789")), some (.int z8), some (.int spot), some (.str word), some (.int rest), e7, none, none, none, none, none] ∧ H' = H ∧ word.length ≤ i) ⟨_, r0, none, rfl, rfl, by decide +kernel⟩ ?_ ?_
   ·rintro i σ H' hi ⟨word, rest, e7, rfl, rfl, wl⟩
    have hi' : i < size := hi
    walk_at "rd"
    have m36 := Int.emod_nonneg rest (show (36 : Int) ≠ 0 by decide)
    have l36 := Int.emod_lt_of_pos rest (show (0 : Int) < 36 by decide)
    refine ⟨by decide, sl, _, j6_ m36 l36, ?_⟩
    have e2 : (⟨#[sg (rest % 36).toNat]⟩ : Str).length = 1 := rfl
    exact ⟨by omega, by decide, by decide +kernel, by rw [lk_]; omega⟩
   ·rintro σ H' ⟨word, rest, e7, rfl, rfl, wl⟩
    walk_at "rd"
    refine ⟨by decide, by omega, fun hd hl _ => ⟨by omega, fun tl tl' _ => ⟨by decide, fun p np => ⟨_, SqT.of ac_, rfl, _, _, rfl, _, _, rfl, rfl, by omega, by omega, ?_⟩⟩⟩⟩
    have S1 : Same H' (upd H' p (HO.tup [V.str hd, V.str tl])) := Same.new np
    generalize upd H' p (HO.tup [V.str hd, V.str tl]) = H1 at *
    obtain ⟨fi, hfi, fi36⟩ : ∃ fi : Nat, rest % 36 = fi ∧ fi < 36 := by
     have a1 := Int.emod_nonneg rest (show (36 : Int) ≠ 0 by decide)
     have a2 := Int.emod_lt_of_pos rest (show (0 : Int) < 36 by decide)
     exact ⟨(rest % 36).toNat, by omega, by omega⟩
    rw [hfi, show Int.toNat (n : Int) = n by omega]
    refine bL_ (n := n) (B := fun _ => none) (Pσ := fun σ => ∃ e, σ = [e, some (.str hd), some (.str (Str.ofString "abcdefghijklmnopqrstuvwxyz0123456789")), some (.int fi), some (.str tl)]) (ds := ((List.range n).map (nmA hd tl fi)).map Dt.str) (fun b o e => by cases e) ⟨_, rfl⟩ (by simp) (by omega) (fun j H2 hj s2 => hj) (fun H2 s2 => Nat.le_refl _) ?_ ?_
    ·rintro D i x d σ' H2 H2' hD hDo hs2 hi hdi ⟨rfl, rfl⟩ ⟨e, rfl⟩ R kR
     walk_at "rd"
     have hi' : i < n := hi
     have hd2 : d = Dt.str (nmA hd tl fi i) := by
      rw [List.getElem?_map, List.getElem?_map, List.getElem?_range hi'] at hdi
      exact (Option.some.inj hdi).symm
     have eI : ((fi : Int) + 7 * (0 + (i : Nat))) % 36 = (((fi + 7 * i) % 36 : Nat) : Int) := by omega
     have lt36 : (fi + 7 * i) % 36 < 36 := Nat.mod_lt _ (by decide)
     rw [eI]
     refine ⟨.inl ⟨by decide, by decide⟩, by decide, sl, _, j6_ (by omega) (by omega), ?_⟩
     rw [Int.toNat_natCast]
     have e2 : (⟨#[sg ((fi + 7 * i) % 36)]⟩ : Str).length = 1 := rfl
     refine ⟨by omega, by rw [lk_]; omega, ?_⟩
     refine kR _ _ _ ⟨_, rfl⟩ (Same.refl _) ?_
     rw [hd2]
     exact rfl
    ·intro D H2 hD s2 rep2
     refine ⟨by decide, by decide +kernel, by decide, ite2 (fun _ => ?_) (fun _ => ?_)⟩
     ·refine ⟨Nat.zero_le _, fun l nl => ⟨by omega, by omega, ?_⟩⟩
      have nl' : H' l = none := (S1.trans s2).free nl
      refine bK_ (fun i σ H3 => ∃ (e7 e12 : Option V), σ = [some (.int z), some (.int n), some (.str (Str.ofString "abcdefghijklmnopqrstuvwxyz0123456789")), some (.int z8), some (.int spot), some (.str word), some (.int rest), e7, some (.int fi), some (.str hd), some (.str tl), some (.ref l), e12] ∧ Same H' H3 ∧ H3 l = some (.lst (((List.range i).map (nmB fi)).map V.str))) ⟨_, _, rfl, (S1.trans s2).upd nl', ac_⟩ ?_ ?_
      ·rintro i σ H3 hi ⟨e7, e12, rfl, s3, hl3⟩
       have hi' : i < n := hi
       walk_at "rd"
       have eI : ((fi : Int) + 1 + (0 + (i : Nat)) / 7) % 36 = (((fi + 1 + i / 7) % 36 : Nat) : Int) := by omega
       have lt36 : (fi + 1 + i / 7) % 36 < 36 := Nat.mod_lt _ (by decide)
       have eM : (1 : Int) + (0 + (i : Nat)) % 7 = ((1 + i % 7 : Nat) : Int) := by omega
       rw [eI, eM]
       obtain ⟨mo, me⟩ := mul_one (c := sg fi) (1 + i % 7) (by omega) (by omega)
       refine ⟨by decide, by decide +kernel, by decide, sl, _, j6_ (by omega) (by omega), ?_⟩
       refine ⟨.inl ⟨_, .inl (.inl hl3)⟩, sl, _, j6_ (by omega) (by omega), by decide, ?_⟩
       rw [Int.toNat_natCast, Int.toNat_natCast]
       change MulOk (one (sg fi)) _ ∧ _
       refine ⟨mo, .inr ?_⟩
       change MulOk (one (sg ((fi + 1 + i / 7) % 36))) _ ∧ ((Txt.mul (one (sg fi)) _).length + (Txt.mul (one (sg ((fi + 1 + i / 7) % 36))) _).length ≤ sizeLine) ∧ ∃ x, _ ∧ _ ∧ Same H' (upd H3 l (HO.lst (x ++ [V.str (Txt.mul (one (sg fi)) _ ++ Txt.mul (one (sg ((fi + 1 + i / 7) % 36))) _)]))) ∧ x ++ [V.str (Txt.mul (one (sg fi)) _ ++ Txt.mul (one (sg ((fi + 1 + i / 7) % 36))) _)] = _
       obtain ⟨p1, p2⟩ := nw_ (one (sg ((fi + 1 + i / 7) % 36))) (6 < 0 + (i : Int))
       have ln : (⟨(List.replicate (1 + i % 7) (sg fi)).toArray⟩ : Str).length ≤ 7 := by
        show ((List.replicate (1 + i % 7) (sg fi)).toArray).size ≤ 7
        simp
        omega
       have lo : (opt (one (sg ((fi + 1 + i / 7) % 36))) (decide (6 < 0 + (i : Int)))).length ≤ 1 := by
        unfold opt
        split
        ·exact Nat.le_refl _
        ·exact Nat.zero_le _
       rw [me, p2]
       have eD : decide (6 < 0 + (i : Int)) = decide (6 < i) := by apply decide_eq_decide.mpr; omega
       refine ⟨p1, by omega, _, hl3, small1000 (by simp; omega), fun b o hb => ?_, ?_⟩
       ·rw [af_ (ag_ hb nl')]
        exact s3 _ _ hb
       ·rw [eD, oj_, List.range_succ, List.map_append, List.map_append]
        rfl
      ·rintro σ H3 ⟨e7, e12, rfl, s3, hl3⟩
       walk_at "rd"
       exact k l _ H3 s3 (j8_ nl' hl3) (by simp) (j7_ fun a b ha hb e => nv_ fi36 (by omega) (by omega) e)
     ·obtain ⟨_, us, e0, hD2, hus⟩ := id rep2
      cases e0
      rw [eK_ hus] at hD2
      exact k D _ H2 (S1.trans s2) (j8_ (S1.free hD) (aP_ hD2).2) (by simp) (j7_ fun a b ha hb e => nu_ (by omega) (by omega) e)
def rot (l : List Nat) (t : Nat) : List Nat := l.drop t ++ l.take t
theorem lx_ (l : List Nat) (t : Nat) : (rot l t).length = l.length := by
 unfold rot
 rw [List.length_append, List.length_drop, List.length_take]
 omega
theorem ly_ (l : List Nat) (t x : Nat) : (rot l t).count x = l.count x := by
 unfold rot
 rw [List.count_append, Nat.add_comm, ← List.count_append, List.take_append_drop]
theorem ok_ {P W p t : Nat} {T : List (List Nat)} (g : Gr P W T) (hp : p < T.length) : Gr P W (T.set p (rot (T.getD p []) t)) := by
 have fc : ∀ x, (T.set p (rot (T.getD p []) t)).flatten.count x = T.flatten.count x := fun x => by
  have := gf_ x (rot (T.getD p []) t) T p hp
  rw [ly_] at this
  omega
 refine ⟨by rw [List.length_set]; exact g.len, by rw [List.length_set]; exact g.most, fun w hw => by rw [fc]; exact g.two w hw, fun w hw => ?_, fun q h1 h2 => ?_, ?_⟩
 ·have := List.count_pos_iff.mpr hw
  rw [fc] at this
  exact g.lt w (List.count_pos_iff.mp this)
 ·rw [List.length_set] at h2
  have := g.ne q h1 h2
  unfold rl at this ⊢
  rw [List.getD_eq_getElem?_getD, List.getElem?_set]
  by_cases e : p = q
  ·subst e
   rw [if_pos rfl, if_pos hp]
   show 0 < (rot (T.getD p []) t).length
   rw [lx_]
   exact this
  ·rw [if_neg e, ← List.getD_eq_getElem?_getD]
   exact this
 ·have := je_ (rot (T.getD p []) t) T p hp
  rw [lx_, g.tot] at this
  omega
theorem iI_ {a : Addr} : ∀ {l : List Addr} {p : Nat}, a ∉ l → l.Nodup → (l.set p a).Nodup
 | [], _, _, _ => List.nodup_nil
 | x :: l, 0, ha, h => by
  rw [List.set_cons_zero]
  exact List.nodup_cons.mpr ⟨fun z => ha (List.mem_cons_of_mem _ z), (List.nodup_cons.mp h).2⟩
 | x :: l, p + 1, ha, h => by
  rw [List.set_cons_succ]
  refine List.nodup_cons.mpr ⟨fun z => ?_, iI_ (fun z => ha (List.mem_cons_of_mem _ z)) (List.nodup_cons.mp h).2⟩
  rcases List.mem_or_eq_of_mem_set z with z | z
  ·exact (List.nodup_cons.mp h).1 z
  ·exact ha (by rw [z]; exact List.mem_cons_self)
theorem To.put {B H : Hp} {l : Addr} {as_ : List Addr} {T : List (List Nat)} (h : To B H l as_ T) (sB : Same B H) {a : Addr} {p : Nat} (hp : p < T.length) (na : H a = none) (r : List Nat) : To B (upd (upd H a (.lst (r.map fun n : Nat => V.int n))) l (.lst ((as_.set p a).map V.ref))) l (as_.set p a) (T.set p r) := by
 have la : l ≠ a := ag_ h.tn.top na
 have an : a ∉ as_ := fun z => by
  obtain ⟨p, hp, e⟩ := List.mem_iff_getElem.mp z
  have := h.tn.row p a (by rw [List.getElem?_eq_getElem hp, e])
  rw [na] at this
  cases this
 have mem : ∀ b, b ∈ as_.set p a → b = a ∨ b ∈ as_ := fun b hb => List.mem_or_eq_of_mem_set hb |>.symm
 have pl : p < as_.length := by rw [h.tn.len]; exact hp
 refine ⟨⟨ac_, by rw [List.length_set, List.length_set]; exact h.tn.len, fun q b hb => ?_⟩, ?_, fun z => ?_, h.fl, fun b hb => ?_⟩
 ·have bl : b ≠ l := fun e => by
   rcases mem b (List.mem_of_getElem? hb) with z | z
   ·exact la (e.symm.trans z)
   ·exact h.nl (by rw [← e]; exact z)
  rw [af_ bl, List.getD_eq_getElem?_getD, List.getElem?_set]
  rw [List.getElem?_set] at hb
  by_cases e : p = q
  ·rw [if_pos e, if_pos hp]
   rw [if_pos e, if_pos pl] at hb
   cases hb
   rw [ac_]
   rfl
  ·rw [if_neg e] at hb ⊢
   have e2 := h.tn.row q b hb
   rw [af_ (fun z => by rw [z, na] at e2; cases e2), e2, List.getD_eq_getElem?_getD]
 ·exact iI_ an h.nd
 ·rcases mem l z with z | z
  ·exact la z
  ·exact h.nl z
 ·rcases mem b hb with z | z
  ·rw [z]; exact sB.free na
  ·exact h.fa b z
abbrev s_Lbegun : Stmt := stN 38
theorem eL_ : FnScope ["_law_turns", "_law_posts", "_law_big_here", "_law_p", "_law_turn"] ["_law_turns", "_law_posts", "_law_big_here"] (defScope s_Lbegun) := ⟨rfl, rfl, rfl, by decide +kernel, rfl, by decide +kernel, by decide +kernel⟩
theorem bq_ : LK s_Lbegun "_law_turns" .local := by decide +kernel
theorem jw_ : LK s_Lbegun "_law_posts" .local := by decide +kernel
theorem ej_ : LK s_Lbegun "_law_big_here" .local := by decide +kernel
theorem bI_ : LK s_Lbegun "_law_p" .local := by decide +kernel
theorem ek_ : LK s_Lbegun "_law_turn" .local := by decide +kernel
theorem db_ : LK s_Lbegun "len" .globalImplicit := by decide +kernel
theorem gu_ : LK s_Lbegun "range" .globalImplicit := by decide +kernel
def sp_begun : Sp := fun vs H Q _ => ∃ (B : Hp) (l : Addr) (as_ : List Addr) (T : List (List Nat)) (P W : Nat) (z : Int), vs = [.ref l, .int P, .int z] ∧ Same B H ∧ To B H l as_ T ∧ Gr P W T ∧ P ≤ 6 ∧ W ≤ 15 ∧
 ∀ bs T' H', Same B H' → (∀ b o, b ≠ l → H b = some o → H' b = some o) → To B H' l bs T' → Gr P W T' → T'.length = T.length → Q (.ref l) H'
theorem lz_ (T : Txt K mg) (F : Fn0 K mg "_law_begun" s_Lbegun) : Cal P w K mg base "_law_begun" ["_law_turns", "_law_posts", "_law_big_here"] 1 sp_begun := by
 refine aJ_ F eL_ (fun _ _ _ _ _ _ us hl => match us, hl with | [_, _, _], _ => rfl) ?len ?body
 case len => rintro vs H Q E ⟨a, b, c, d, e, f, g, rfl, _⟩; rfl
 case body =>
  intro f cdv A outer s H vs Q E hr h
  obtain ⟨B, l, as_, Tt, Pp, W, z, rfl, sB, hT, gr, P6, W15, k⟩ := h
  have gl := gr.len
  have gm := gr.most
  refine' ⟨_, ?D, ?R⟩
  case D =>
   refine' ad_ ?g1 ?g2
   case' g1 => refine' bg_ PassesOwn.never rfl ?g3 ?g4 ?g5
   case' g3 => refine' kP_ gu_ T.n_range ?g6
   case' g6 => refine' pa_c (pv1 1 rfl jw_) ?g8
   case' g8 => refine' pa_c ?g9 aa_
   case' g9 => refine' al_ am_ db_ T.n_len aQ_ ?g11
   case' g11 => refine' pa_c (pv1 0 rfl bq_) aa_
   case g4 => exact ak_ (i := 3) eL_.nd rfl bI_
   case' g5 => refine' ad_ ?g14 ?g15
   case' g14 => refine' ai_ (i := 4) eL_.nd rfl ek_ ?g16
   case' g16 => refine' pe_op aG_ (pv1 2 rfl ej_) ?g18
   case' g18 => refine' al_ am_ db_ T.n_len aQ_ ?g19
   case' g19 => refine' pa_c ?g20 aa_
   case' g20 => refine' pe_ix ah_ (pv1 0 rfl bq_) (pv1 3 rfl bI_) (fun _ _ => rfl)
   case' g15 => refine' ad_ ?g24 ?g25
   case' g24 => refine' ai_ (i := 2) eL_.nd rfl ej_ ?g26
   case' g26 => refine' pe_op au_ (pv1 2 rfl ej_) ?g28
   case' g28 => refine' al_ am_ db_ T.n_len aQ_ ?g29
   case' g29 => refine' pa_c ?g30 aa_
   case' g30 => refine' pe_ix ah_ (pv1 0 rfl bq_) (pv1 3 rfl bI_) (fun _ _ => rfl)
   case' g25 => refine' ae_ ?g34
   case' g34 => refine' dw_ ?g35 (h1_ (pv1 0 rfl bq_) (pv1 3 rfl bI_) ey_)
   case' g35 => refine' pe_op mE_ ?g38 ?g39
   case' g38 => refine' ex_ hw_ ?g40 ?g41 ?g42
   case' g40 => refine' pe_ix ah_ (pv1 0 rfl bq_) (pv1 3 rfl bI_) (fun _ _ => rfl)
   case' g41 => refine' fZ_ (pv1 4 rfl ek_)
   case g42 => exact fY_
   case' g39 => refine' ex_ hw_ ?g46 ?g47 ?g48
   case' g46 => refine' pe_ix ah_ (pv1 0 rfl bq_) (pv1 3 rfl bI_) (fun _ _ => rfl)
   case g47 => exact fY_
   case' g48 => refine' fZ_ (pv1 4 rfl ek_)
   case' g2 => refine' ae_ ?g52
   case' g52 => refine' aq_ (pv1 0 rfl bq_)
  case R =>
   walk_at "rd"
   have al := hT.tn.len
   refine ⟨_, .inl hT.tn.top, by omega, by omega, by rw [List.length_map]; omega, by rw [List.length_map]; omega, ?_⟩
   rw [List.length_map, show Int.toNat ((as_.length : Nat) - (Pp : Nat) : Int) = Tt.length - Pp by omega]
   refine bK_ (fun i σ H' => ∃ (z : Int) (e3 e4 : Option V) (bs : List Addr) (T' : List (List Nat)), σ = [some (.ref l), some (.int Pp), some (.int z), e3, e4] ∧ Same B H' ∧ (∀ b o, b ≠ l → H b = some o → H' b = some o) ∧ To B H' l bs T' ∧ Gr Pp W T' ∧ T'.length = Tt.length) ⟨z, none, none, as_, Tt, rfl, sB, fun b o _ h => h, hT, gr, rfl⟩ ?_ ?_
   ·rintro i σ H' hi ⟨z, e3, e4, bs, T', rfl, sB', kp, hT', gr', hl⟩
    have hi' : i < Tt.length - Pp := hi
    obtain ⟨a, ea, at0, ra⟩ := hT'.tn.at_ (p := Pp + i) (by omega)
    have r0 := gr'.ne (Pp + i) (by omega) (by omega)
    have rt : rl T' (Pp + i) ≤ 30 := by
     have := rl_le T' (Pp + i)
     rw [gr'.tot] at this
     omega
    have rle : (T'.getD (Pp + i) []).length = rl T' (Pp + i) := rfl
    have eP : (Pp : Int) + (i : Nat) = ((Pp + i : Nat) : Int) := by omega
    walk_at "rd"
    rw [eP]
    have rdef : T'.getD (Pp + i) [] = T'.getD (Pp + i) [] := rfl
    generalize hr0 : T'.getD (Pp + i) [] = r at *
    obtain ⟨t, ht, tl⟩ : ∃ t : Nat, z % (((r.map fun n : Nat => V.int n).length : Nat) : Int) = t ∧ t < r.length := by
     rw [List.length_map]
     have a1 := Int.emod_nonneg z (show (r.length : Int) ≠ 0 by omega)
     have a2 := Int.emod_lt_of_pos z (show (0 : Int) < (r.length : Int) by omega)
     exact ⟨(z % (r.length : Int)).toNat, by omega, by omega⟩
    have lg : (((r.map fun n : Nat => V.int n).length : Int)).natAbs.log2 < 9000 := by
     rw [List.length_map]
     by_cases h0 : ((r.length : Int)).natAbs = 0
     ·rw [h0]; decide
     ·rw [Nat.log2_lt h0]
      exact Nat.lt_of_le_of_lt (show ((r.length : Int)).natAbs ≤ 1000 by omega) (by decide +kernel)
    have c1 : cutV (r.map fun n : Nat => V.int n) (some (t : Int)) none = (r.drop t).map fun n : Nat => V.int n := by rw [l5_ _ _ (by simp; omega), List.map_drop]
    have c2 : cutV (r.map fun n : Nat => V.int n) none (some (t : Int)) = (r.take t).map fun n : Nat => V.int n := by rw [mF_ _ _ (by simp; omega), List.map_take]
    have top := hT'.tn.top
    refine ⟨_, top, _, at0, a, rfl, _, .inl ra, by rw [List.length_map]; omega, _, top, _, at0, a, rfl, _, .inl ra, by rw [List.length_map]; omega, lg, _, top, _, at0, a, rfl, _, ra, fun p1 n1 => ⟨_, (Same.new n1) _ _ top, _, at0, a, rfl, _, (Same.new n1) _ _ ra, fun p2 n2 => ?_⟩⟩
    rw [ht, c1] at n2 ⊢
    rw [c2]
    have S2 : Same H' (upd (upd H' p1 (HO.lst ((r.drop t).map fun n : Nat => V.int n))) p2 (HO.lst ((r.take t).map fun n : Nat => V.int n))) := (Same.new n1).trans (Same.new n2)
    have h1 := (Same.new n2 (o := HO.lst ((r.take t).map fun n : Nat => V.int n))) _ _ (ac_ (H := H') (a := p1) (o := HO.lst ((r.drop t).map fun n : Nat => V.int n)))
    generalize upd (upd H' p1 (HO.lst ((r.drop t).map fun n : Nat => V.int n))) p2 (HO.lst ((r.take t).map fun n : Nat => V.int n)) = H2 at *
    refine ⟨_, h1, by rw [List.length_map, List.length_map]; exact Nat.le_trans (show _ ≤ 1000 by rw [List.length_drop, List.length_take]; omega) (by rw [sizeLine_eq]; decide), fun p3 n3 => ?_⟩
    have e3 : ((r.drop t).map fun n : Nat => V.int n) ++ ((r.take t).map fun n : Nat => V.int n) = (rot r t).map fun n : Nat => V.int n := by rw [← List.map_append]; rfl
    rw [e3]
    have hT2 := (hT'.mono S2).put (sB'.trans S2) (p := Pp + i) (by omega) n3 (rot r t)
    rw [List.map_set] at hT2
    have lp : l ≠ p3 := ag_ (S2 _ _ top) n3
    refine ⟨_, by rw [af_ lp]; exact S2 _ _ top, Pp + i, ?_, fun b o hb => ?_, fun b o hb h => ?_, bs.set (Pp + i) p3, T'.set (Pp + i) (rot r t), hT2, ?_, by rw [List.length_set]; exact hl⟩
    ·have bl := hT'.tn.len
     unfold ixN
     rw [List.length_map]
     rw [if_pos (by omega), if_pos (by omega), Int.toNat_natCast]
    ·rw [af_ (ag_ hb hT.fl), af_ (ag_ hb ((sB'.trans S2).free n3))]
     exact S2 _ _ (sB' _ _ hb)
    ·have e4 := kp b o hb h
     rw [af_ hb, af_ (ag_ (S2 _ _ e4) n3)]
     exact S2 _ _ e4
    ·have g2 := ok_ (t := t) gr' (p := Pp + i) (by omega)
     rw [hr0] at g2
     exact g2
   ·rintro σ H' ⟨z, e3, e4, bs, T', rfl, sB', kp, hT', gr', hl⟩
    walk_at "rd"
    exact k bs T' H' sB' kp hT' gr' hl
def dS (x : Str) : Dt := .str x
def dRw (r : Str × List Str) : Dt := .tup [.str r.1, .lst (r.2.map dS)]
def dWo (r : Str × (Int × Int)) : Dt := .tup [.str r.1, .tup [.int r.2.1, .int r.2.2]]
def dNet (N : Net Str) : Dt := .tup [.lst (N.posts.map dS), .lst (N.rows.map dRw), .lst (N.worths.map dWo)]
theorem el_ {xs : List Str} {i : Nat} (h : i < xs.length) : (xs.map V.str)[i]? = some (.str (xs.getD i Str.empty)) := by
 rw [List.getElem?_map, List.getElem?_eq_getElem h, List.getD_eq_getElem?_getD, List.getElem?_eq_getElem h]
 rfl
theorem hK_ {xs : List Str} (h : xs.Nodup) {a b : Nat} (ha : a < xs.length) (hb : b < xs.length) (e : xs.getD a Str.empty = xs.getD b Str.empty) : a = b := by
 refine (List.getElem?_inj ha h).mp ?_
 rw [List.getD_eq_getElem?_getD, List.getD_eq_getElem?_getD, List.getElem?_eq_getElem ha, List.getElem?_eq_getElem hb] at e
 rw [List.getElem?_eq_getElem ha, List.getElem?_eq_getElem hb]
 exact congrArg some e
theorem iJ_ {α β : Type} (f : α → β) : ∀ (l : List α) (t : Nat), (l.map f).eraseIdx t = (l.eraseIdx t).map f
 | [], _ => rfl
 | _ :: _, 0 => rfl
 | x :: l, t + 1 => by
  show f x :: (l.map f).eraseIdx t = f x :: (l.eraseIdx t).map f
  rw [iJ_ f l t]
theorem g8_ : ∀ {l : List Nat} {t : Nat} (h : t < l.length), (l[t] :: l.eraseIdx t).Perm l
 | x :: l, 0, _ => .refl _
 | x :: l, t + 1, h => by
  have ih := g8_ (l := l) (t := t) (by simpa using h)
  show (l[t]'(by simpa using h) :: x :: l.eraseIdx t).Perm (x :: l)
  exact (List.Perm.swap _ _ _).trans (ih.cons x)
theorem gv_ {H : Hp} : ∀ {us : List V} {ts : List Str}, Reps H us (ts.map dS) → us = ts.map V.str := fun h => eK_ h
theorem lA_ {α : Type} (f : α → Dt) {H : Hp} {zs ws : List V} (h : zs.Perm ws) : ∀ {wl : List α}, Reps H ws (wl.map f) → ∃ wl' : List α, wl'.Perm wl ∧ Reps H zs (wl'.map f) := by
 induction h with
 | nil => exact fun {wl} r => ⟨wl, .refl _, r⟩
 | cons x _ ih =>
  intro wl r
  cases wl with
  | nil => cases r
  | cons d wl =>
   obtain ⟨_, _, e, hx, hr⟩ := r
   cases e
   obtain ⟨wl', p, r'⟩ := ih hr
   exact ⟨d :: wl', p.cons d, _, _, rfl, hx, r'⟩
 | swap x y l =>
  intro wl r
  cases wl with
  | nil => cases r
  | cons d wl =>
   obtain ⟨_, _, e, hx, hr⟩ := r
   cases e
   cases wl with
   | nil => cases hr
   | cons d2 wl =>
    obtain ⟨_, _, e, hy, hr⟩ := hr
    cases e
    exact ⟨d2 :: d :: wl, .swap _ _ _, _, _, rfl, hy, _, _, rfl, hx, hr⟩
 | trans _ _ h1 h2 =>
  intro wl r
  obtain ⟨w1, p1, r1⟩ := h2 r
  obtain ⟨w2, p2, r2⟩ := h1 r1
  exact ⟨w2, p2.trans p1, r2⟩
def NLoop (H6 : Hp) (a l D1 D2 O R : Addr) (Pp W n : Nat) (nms wns : List Str) (T' : List (List Nat)) (σ : L2.St) (H' : Hp) : Prop :=
 ∃ (z : Int) (e11 : Option V) (S : Hp) (rem dn : List Nat) (ys : List V), σ = [some (.ref a), some (.int 0), some (.int 9), some (.int z), some (.int Pp), some (.int W), some (.ref l), some (.ref D1), some (.ref D2), some (.ref O), some (.ref R), e11, none, none, none] ∧ Same H6 S ∧ Same S H' ∧ S O = none ∧ S R = none ∧ H' O = some (.lst (rem.map fun n : Nat => V.int n)) ∧ H' R = some (.lst ys) ∧ Reps S ys ((rowsOf (fun p => nms.getD p Str.empty) (fun v => wns.getD v Str.empty) T' dn).map dRw) ∧ (dn ++ rem).Perm (List.range n)
def lenO (O : Addr) (H : Hp) : Nat := match H O with | some (.lst xs) => xs.length | _ => 0
abbrev s_Lnet_by : Stmt := stN 39
theorem aA_ : FnScope ["_law_script", "_law_at", "_law_most", "_law_big_here", "_law_posts", "_law_many", "_law_turns", "_law_names_here", "_law_wires", "_law_order", "_law_rows", "_law_p", "_law_worths", "_law_wire", "_law_worth"] ["_law_script", "_law_at", "_law_most"] (defScope s_Lnet_by) := ⟨rfl, rfl, rfl, by decide +kernel, rfl, by decide +kernel, by decide +kernel⟩
theorem cv_ : LK s_Lnet_by "_law_script" .local := by decide +kernel
theorem cw_ : LK s_Lnet_by "_law_at" .local := by decide +kernel
theorem cx_ : LK s_Lnet_by "_law_most" .local := by decide +kernel
theorem aB_ : LK s_Lnet_by "_law_big_here" .local := by decide +kernel
theorem cy_ : LK s_Lnet_by "_law_posts" .local := by decide +kernel
theorem bV_ : LK s_Lnet_by "_law_many" .local := by decide +kernel
theorem bt_ : LK s_Lnet_by "_law_turns" .local := by decide +kernel
theorem dJ_ : LK s_Lnet_by "_law_names_here" .local := by decide +kernel
theorem fF_ : LK s_Lnet_by "_law_wires" .cell := by decide +kernel
theorem bW_ : LK s_Lnet_by "_law_order" .local := by decide +kernel
theorem dc_ : LK s_Lnet_by "_law_rows" .local := by decide +kernel
theorem dd_ : LK s_Lnet_by "_law_p" .local := by decide +kernel
theorem de_ : LK s_Lnet_by "_law_worths" .local := by decide +kernel
theorem eM_ : LK s_Lnet_by "_law_wire" .local := by decide +kernel
theorem eN_ : LK s_Lnet_by "_law_worth" .local := by decide +kernel
theorem fd_ : LK s_Lnet_by "_law_begun" .globalImplicit := by decide +kernel
theorem by_ : LK s_Lnet_by "_law_big" .globalImplicit := by decide +kernel
theorem fe_ : LK s_Lnet_by "_law_grown" .globalImplicit := by decide +kernel
theorem cM_ : LK s_Lnet_by "_law_names" .globalImplicit := by decide +kernel
theorem dZ_ : LK s_Lnet_by "_law_worth_of" .globalImplicit := by decide +kernel
theorem bP_ : LK s_Lnet_by "len" .globalImplicit := by decide +kernel
theorem gw_ : LK s_Lnet_by "list" .globalImplicit := by decide +kernel
theorem dq_ : LK s_Lnet_by "range" .globalImplicit := by decide +kernel
theorem ff_ : LK s_Lnet_by "sorted" .globalImplicit := by decide +kernel
structure WOk (N : Net Str) : Prop where
 nd : (N.worths.map (·.1)).Nodup
 mem : ∀ x, x ∈ N.worths.map (·.1) ↔ x ∈ N.all
 ws : ∀ x ∈ N.worths, Ws x.2
def sp_net (K : PySem.W.Frag) : Sp := fun vs H Q _ => ∃ (a : Addr) (ns : List Int), vs = [.ref a, .int 0, .int 9] ∧ SqL K H a (ns.map V.int) ∧ ∀ v (N : Net Str) H', Same H H' → Rep H' v (dNet N) → NetOk N → PostsOk N → WOk N → Q v H'
theorem kE_ (T : Txt K mg) (F : Fn0 K mg "_law_net_by" s_Lnet_by) (C_Lbig : Cal P w K mg base "_law_big" ["_law_script", "_law_at"] 2 (sp_big K)) (C_Lgrown : Cal P w K mg base "_law_grown" ["_law_big_here", "_law_posts", "_law_many", "_law_within"] 3 sp_grown) (C_Lnames : Cal P w K mg base "_law_names" ["_law_big_here", "_law_many"] 1 sp_names) (C_Lbegun : Cal P w K mg base "_law_begun" ["_law_turns", "_law_posts", "_law_big_here"] 1 sp_begun) (C_Lworth_of : Cal P w K mg base "_law_worth_of" ["_law_big_here"] 2 sp_worth) : Cal P w K mg base "_law_net_by" ["_law_script", "_law_at", "_law_most"] 4 (sp_net K) := by
 refine aJ_ F aA_ (fun _ _ _ _ _ _ us hl => match us, hl with | [_, _, _], _ => rfl) ?len ?body
 case len => rintro vs H Q E ⟨a, b, rfl, _⟩; rfl
 case body =>
  intro f cdv A outer s H vs Q E hr h
  obtain ⟨a, ns, rfl, hS, k⟩ := h
  refine' ⟨_, ?D, ?R⟩
  case D =>
   refine' ad_ ?g1 ?g2
   case' g1 => refine' ai_ (i := 3) aA_.nd rfl aB_ ?g3
   case' g3 => refine' aj_ C_Lbig (hr.mono (by decide)) by_ ?g4
   case' g4 => refine' pa_c (pv1 0 rfl cv_) ?g6
   case' g6 => refine' pa_c (pv1 1 rfl cw_) aa_
   case' g2 => refine' ad_ ?g9 ?g10
   case' g9 => refine' ai_ (i := 4) aA_.nd rfl cy_ ?g11
   case' g11 => refine' pe_op aN_ ab_ ?g13
   case' g13 => refine' pe_op aG_ (pv1 3 rfl aB_) ab_
   case' g10 => refine' ad_ ?g16 ?g17
   case' g16 => refine' ai_ (i := 5) aA_.nd rfl bV_ ?g18
   case' g18 => refine' pe_op aG_ ?g19 ?g20
   case' g19 => refine' pe_op au_ (pv1 3 rfl aB_) ab_
   case' g20 => refine' pe_op aN_ (pv1 2 rfl cx_) ab_
   case' g17 => refine' ad_ ?g25 ?g26
   case' g25 => refine' g0_ ?g27
   case' g27 => refine' ps_if ?g28 ?g29 aL_
   case' g28 => refine' az_ op_eq ?g31 ab_ (nomark _)
   case' g31 => refine' pe_op aG_ ?g33 ab_
   case' g33 => refine' pe_op au_ ?g35 ?g36
   case' g35 => refine' pe_op au_ (pv1 3 rfl aB_) ab_
   case' g36 => refine' pe_op aN_ (pv1 2 rfl cx_) ab_
   case' g29 => refine' ae_ ?g41
   case' g41 => refine' ai_ (i := 5) aA_.nd rfl bV_ ?g42
   case' g42 => refine' pe_op aG_ ?g43 ab_
   case' g43 => refine' pe_op au_ ?g45 ?g46
   case' g45 => refine' pe_op au_ (pv1 3 rfl aB_) ab_
   case' g46 => refine' pe_op aN_ (pv1 2 rfl cx_) ab_
   case' g26 => refine' ad_ ?g51 ?g52
   case' g51 => refine' dw_ ?g53 ?g54
   case' g53 => refine' aj_ C_Lgrown (hr.mono (by decide)) fe_ ?g55
   case' g55 => refine' pa_c ?g56 ?g57
   case' g56 => refine' pe_op au_ ?g58 ?g59
   case' g58 => refine' pe_op au_ (pv1 3 rfl aB_) ab_
   case' g59 => refine' pe_op aN_ (pv1 2 rfl cx_) ab_
   case' g57 => refine' pa_c (pv1 4 rfl cy_) ?g65
   case' g65 => refine' pa_c (pv1 5 rfl bV_) ?g67
   case' g67 => refine' pa_c ab_ aa_
   case' g54 => refine' bc_ (K := K) (n := 2) rfl rfl ?g70
   case' g70 => refine' ap_ ?g71 ?g72
   case g71 => exact ak_ (i := 6) aA_.nd rfl bt_
   case' g72 => refine' ap_ ?g73 ba_
   case g73 => exact ak_ (i := 3) aA_.nd rfl aB_
   case' g52 => refine' ad_ ?g75 ?g76
   case' g75 => refine' ai_ (i := 7) aA_.nd rfl dJ_ ?g77
   case' g77 => refine' aj_ C_Lnames (hr.mono (by decide)) cM_ ?g78
   case' g78 => refine' pa_c ?g79 ?g80
   case' g79 => refine' aj_ C_Lbig (hr.mono (by decide)) by_ ?g81
   case' g81 => refine' pa_c (pv1 0 rfl cv_) ?g83
   case' g83 => refine' pa_c ?g84 aa_
   case' g84 => refine' pe_op aN_ (pv1 1 rfl cw_) ab_
   case' g80 => refine' pa_c ?g88 aa_
   case' g88 => refine' al_ am_ bP_ T.n_len aQ_ ?g90
   case' g90 => refine' pa_c (pv1 6 rfl bt_) aa_
   case' g76 => refine' ad_ ?g93 ?g94
   case' g93 => refine' e6_ (i := 8) aA_.nd rfl fF_ rfl ?g95 rfl
   case' g95 => refine' aj_ C_Lnames (hr.mono (by decide)) cM_ ?g96
   case' g96 => refine' pa_c ?g97 ?g98
   case' g97 => refine' aj_ C_Lbig (hr.mono (by decide)) by_ ?g99
   case' g99 => refine' pa_c (pv1 0 rfl cv_) ?g101
   case' g101 => refine' pa_c ?g102 aa_
   case' g102 => refine' pe_op aN_ (pv1 1 rfl cw_) ab_
   case' g98 => refine' pa_c (pv1 5 rfl bV_) aa_
   case' g94 => refine' ad_ ?g108 ?g109
   case' g108 => refine' ai_ (i := 6) aA_.nd rfl bt_ ?g110
   case' g110 => refine' aj_ C_Lbegun (hr.mono (by decide)) fd_ ?g111
   case' g111 => refine' pa_c (pv1 6 rfl bt_) ?g113
   case' g113 => refine' pa_c (pv1 4 rfl cy_) ?g115
   case' g115 => refine' pa_c (pv1 3 rfl aB_) aa_
   case' g109 => refine' ad_ ?g118 ?g119
   case' g118 => refine' ai_ (i := 9) aA_.nd rfl bW_ ?g120
   case' g120 => refine' ip_ rfl gw_ T.n_list dq_ T.n_range ?g121
   case' g121 => refine' pa_c ?g122 aa_
   case' g122 => refine' al_ am_ bP_ T.n_len aQ_ ?g124
   case' g124 => refine' pa_c (pv1 6 rfl bt_) aa_
   case' g119 => refine' ad_ ?g127 ?g128
   case' g127 => refine' ai_ (i := 3) aA_.nd rfl aB_ ?g129
   case' g129 => refine' aj_ C_Lbig (hr.mono (by decide)) by_ ?g130
   case' g130 => refine' pa_c (pv1 0 rfl cv_) ?g132
   case' g132 => refine' pa_c ?g133 aa_
   case' g133 => refine' pe_op aN_ (pv1 1 rfl cw_) ab_
   case' g128 => refine' ad_ ?g137 ?g138
   case' g137 => refine' ai_ (i := 10) aA_.nd rfl dc_ ?g139
   case' g139 => refine' cG_ aa_
   case' g138 => refine' ad_ ?g141 ?g142
   case' g141 => refine' ew_ PassesOwn.never ?g143 ?g144
   case' g143 => refine' az_ (ih_ (hr.units)) (pv1 9 rfl bW_) ?g146 (nomark _)
   case' g146 => refine' cG_ aa_
   case' g144 => refine' ad_ ?g148 ?g149
   case' g148 => refine' ai_ (i := 11) aA_.nd rfl dd_ ?g150
   case' g150 => refine' pe_bm PySem.F.plainAttrs_list PySem.F.slot_list_pop PySem.F.type_list_pop lV_ (pv1 9 rfl bW_) ?g152
   case' g152 => refine' pa_c ?g153 aa_
   case' g153 => refine' pe_op aG_ (pv1 3 rfl aB_) ?g156
   case' g156 => refine' al_ am_ bP_ T.n_len aQ_ ?g157
   case' g157 => refine' pa_c (pv1 9 rfl bW_) aa_
   case' g149 => refine' ad_ ?g160 ?g161
   case' g160 => refine' ai_ (i := 3) aA_.nd rfl aB_ ?g162
   case' g162 => refine' pe_op au_ (pv1 3 rfl aB_) ?g164
   case' g164 => refine' pe_op aN_ ?g165 ab_
   case' g165 => refine' al_ am_ bP_ T.n_len aQ_ ?g167
   case' g167 => refine' pa_c (pv1 9 rfl bW_) aa_
   case' g161 => refine' ae_ ?g170
   case' g170 => refine' bv_ ?g171
   case' g171 => refine' pe_bm PySem.F.plainAttrs_list PySem.F.slot_list_append PySem.F.type_list_append bi_ (pv1 10 rfl dc_) ?g173
   case' g173 => refine' pa_c ?g174 aa_
   case' g174 => refine' aH_ ?g176
   case' g176 => refine' pa_c ?g177 ?g178
   case' g177 => refine' pe_ix ah_ (pv1 7 rfl dJ_) (pv1 11 rfl dd_) (fun _ _ => rfl)
   case' g178 => refine' pa_c ?g181 aa_
   case' g181 => refine' bY_ (N' := ["_law_wire", "_law_wires"]) (ix := [none, some 8]) rfl rfl (bR_ ?g183) ?g184 (fun _ _ _ => ?g185) (fun _ _ _ => ?g186) (fun _ _ _ => ?g187)
   case g183 => exact (by show scpB (defScope s_Lnet_by) ["_law_script", "_law_at", "_law_most", "_law_big_here", "_law_posts", "_law_many", "_law_turns", "_law_names_here", "_law_wires", "_law_order", "_law_rows", "_law_p", "_law_worths", "_law_wire", "_law_worth"] _ _ _ = true; decide +kernel)
   case' g184 => refine' aK_ (K := K) rfl ?g188
   case' g188 => refine' pe_ix ah_ (pv1 6 rfl bt_) (pv1 11 rfl dd_) (fun _ _ => rfl)
   case g185 => exact ak_ (i := 0) (by show List.Nodup (["_law_wire", "_law_wires"] : List Str); decide +kernel) rfl rfl
   case g186 => exact ct_
   case' g187 => refine' pe_ix ah_ (pvc 1 rfl rfl) (pv1 0 rfl rfl) (fun _ _ => rfl)
   case' g142 => refine' ad_ ?g193 ?g194
   case' g193 => refine' ai_ (i := 12) aA_.nd rfl de_ ?g195
   case' g195 => refine' cG_ aa_
   case' g194 => refine' ad_ ?g197 ?g198
   case' g197 => refine' bg_ PassesOwn.never rfl ?g199 ?g200 ?g201
   case' g199 => refine' aS_ dq_ T.n_range ?g202
   case' g202 => refine' pa_c (pv1 5 rfl bV_) aa_
   case g200 => exact ak_ (i := 13) aA_.nd rfl eM_
   case' g201 => refine' ad_ ?g205 ?g206
   case' g205 => refine' dw_ ?g207 ?g208
   case' g207 => refine' aj_ C_Lworth_of (hr.mono (by decide)) dZ_ ?g209
   case' g209 => refine' pa_c (pv1 3 rfl aB_) aa_
   case' g208 => refine' bc_ (K := K) (n := 2) rfl rfl ?g212
   case' g212 => refine' ap_ ?g213 ?g214
   case g213 => exact ak_ (i := 14) aA_.nd rfl eN_
   case' g214 => refine' ap_ ?g215 ba_
   case g215 => exact ak_ (i := 3) aA_.nd rfl aB_
   case' g206 => refine' ae_ ?g217
   case' g217 => refine' bv_ ?g218
   case' g218 => refine' pe_bm PySem.F.plainAttrs_list PySem.F.slot_list_append PySem.F.type_list_append bi_ (pv1 12 rfl de_) ?g220
   case' g220 => refine' pa_c ?g221 aa_
   case' g221 => refine' aH_ ?g223
   case' g223 => refine' pa_c ?g224 ?g225
   case' g224 => refine' pe_ix ah_ (pvc 8 rfl fF_) (pv1 13 rfl eM_) (fun _ _ => rfl)
   case' g225 => refine' pa_c (pv1 14 rfl eN_) aa_
   case' g198 => refine' ae_ ?g230
   case' g230 => refine' aq_ ?g231
   case' g231 => refine' aH_ ?g232
   case' g232 => refine' pa_c ?g233 ?g234
   case' g233 => refine' ex_ hw_ (pv1 7 rfl dJ_) ?g236 ?g237
   case g236 => exact fY_
   case' g237 => refine' fZ_ (pv1 4 rfl cy_)
   case' g234 => refine' pa_c (pv1 10 rfl dc_) ?g240
   case' g240 => refine' pa_c ?g241 aa_
   case' g241 => refine' al_ (kx_ hr.units) ff_ T.n_sorted ib_ ?g243
   case' g243 => refine' pa_c (pv1 12 rfl de_) aa_
  case R =>
   walk_at "rd"
   refine ⟨a, ns, 0, rfl, by decide, hS, fun z0 H0 s0 => ?_⟩
   try walk_at "rd"
   obtain ⟨Pp, hP, P1, P6⟩ : ∃ m : Nat, (1 + z0 % 6 : Int) = m ∧ 1 ≤ m ∧ m ≤ 6 := by
    have a1 := Int.emod_nonneg z0 (show (6 : Int) ≠ 0 by decide)
    have a2 := Int.emod_lt_of_pos z0 (show (0 : Int) < 6 by decide)
    exact ⟨(1 + z0 % 6).toNat, by omega, by omega, by omega⟩
   rw [hP]
   refine ⟨by decide, by decide, by decide +kernel, by decide, ?_⟩
   refine ⟨fun σ Hx => ∃ W : Nat, σ = [some (.ref a), some (.int 0), some (.int 9), some (.int z0), some (.int Pp), some (.int W), none, none, none, none, none, none, none, none, none] ∧ Hx = H0 ∧ W ≤ 15, ?_, ?_⟩
   ·walk_at "rd"
    have a1 := Int.emod_nonneg (z0 / 6) (show (9 + 1 : Int) ≠ 0 by decide)
    have a2 := Int.emod_lt_of_pos (z0 / 6) (show (0 : Int) < 9 + 1 by decide)
    have a3 := Int.emod_nonneg (z0 / 48 / (9 + 1)) (show (16 : Int) ≠ 0 by decide)
    have a4 := Int.emod_lt_of_pos (z0 / 48 / (9 + 1)) (show (0 : Int) < 16 by decide)
    refine ⟨by decide, by decide +kernel, by decide, by decide +kernel, by decide, ite2 (fun _ => ?_) (fun _ => ?_)⟩
    ·exact ⟨by decide, by decide +kernel, by decide, by decide +kernel, by decide, (z0 / 48 / (9 + 1) % 16).toNat, by omega, by omega⟩
    ·exact ⟨(z0 / 6 % (9 + 1)).toNat, by omega, by omega⟩
   rintro σ Hx ⟨W, rfl, rfl, W15⟩
   have hS0 := s0.seq hS
   walk_at "rd"
   refine ⟨by decide, by decide +kernel, by decide, by decide +kernel, ?_⟩
   refine ⟨_, Pp, W, rfl, P1, P6, W15, fun pg l as_ T y H1 s1 hpg hT gr => ?_⟩
   have gl := gr.len
   have gm := gr.most
   refine ⟨pg, rfl, _, SqT.of hpg, rfl, _, _, rfl, _, _, rfl, rfl, a, ns, _, rfl, by decide, (s1.seq hS0), fun z1 H2 s2 => ?_⟩
   have hT2 := hT.mono s2
   have al := hT2.tn.len
   refine ⟨l, rfl, _, .inl hT2.tn.top, ?_⟩
   rw [List.length_map]
   refine ⟨z1, as_.length, rfl, by omega, fun D1 nms H3 s3 rep1 nl1 nd1 => ?_⟩
   have s03 := s1.trans (s2.trans s3)
   refine ⟨a, ns, _, rfl, by decide, s03.seq hS0, fun z2 H4 s4 => ⟨z2, W, rfl, by omega, fun D2 wns H5 s5 rep2 nl2 nd2 => ?_⟩⟩
   have s05 := s03.trans (s4.trans s5)
   have hT5 := hT2.mono (s3.trans (s4.trans s5))
   refine ⟨Hx, l, as_, T, Pp, W, y, rfl, s05, hT5, gr, P6, W15, fun bs T' H6 s6 kp hT6 gr' hl6 => ?_⟩
   obtain ⟨_, us1, e1, hD1', hus1⟩ := id rep1
   cases e1
   rw [eK_ hus1] at hD1'
   obtain ⟨_, us2, e2, hD2', hus2⟩ := id rep2
   cases e2
   rw [eK_ hus2] at hD2'
   have D1l : D1 ≠ l := (ag_ hT2.tn.top (aP_ hD1').1).symm
   have D2l : D2 ≠ l := (ag_ ((hT2.mono (s3.trans s4)).tn.top) (aP_ hD2').1).symm
   have hD1 : H6 D1 = some (.lst (nms.map V.str)) := kp _ _ D1l ((s4.trans s5) _ _ (aP_ hD1').2)
   have hD2 : H6 D2 = some (.lst (wns.map V.str)) := kp _ _ D2l (aP_ hD2').2
   clear hD1' hD2' hus1 hus2 rep1 rep2
   have hS6 := s6.seq hS0
   have bl := hT6.tn.len
   have gl6 := gr'.len
   have gm6 := gr'.most
   clear hT hT2 hT5 s1 s2 s3 s4 s5 s03 s05 kp hpg
   refine ⟨l, rfl, _, .inl hT6.tn.top, bs.length, by rw [List.length_map], by omega, fun O nO => ?_⟩
   have S7 : Same H6 (upd H6 O (HO.lst (numsV bs.length))) := Same.new nO
   have hO := ac_ (H := H6) (a := O) (o := HO.lst (numsV bs.length))
   generalize upd H6 O (HO.lst (numsV bs.length)) = H7 at *
   refine ⟨a, ns, _, rfl, by decide, S7.seq hS6, fun z3 H8 s8 => ⟨Nat.zero_le _, fun R nR => ?_⟩⟩
   have R6 : H6 R = none := (S7.trans s8).free nR
   have RO : R ≠ O := (ag_ (s8 _ _ hO) nR).symm
   have eN : numsV bs.length = (List.range bs.length).map fun n : Nat => V.int n := rfl
   refine f1_ (NLoop H6 a l D1 D2 O R Pp W bs.length nms wns T')
    (fun _ H' => lenO O H') ⟨z3, none, H6, List.range bs.length, [], [], rfl, Same.refl _, (S7.trans s8).upd R6, nO, R6, by rw [af_ RO.symm]; exact s8 _ _ hO, ac_, rfl, .refl _⟩ ?_
   rintro σ H' ⟨z, e11, S, rem, dn, ys, rfl, sS, sH, SO, SR, hO', hR', repS, pm⟩
   walk_at "rd"
   refine ⟨Nat.zero_le _, fun p np => ?_⟩
   have Sp : Same H' (upd H' p (HO.lst [])) := Same.new np
   have repO : Rep (upd H' p (HO.lst [])) (.ref O) (.lst (rem.map fun n : Nat => Dt.int n)) := ⟨O, _, rfl, Sp _ _ hO', by
    clear hO' pm
    induction rem with
    | nil => exact rfl
    | cons x r ih => exact ⟨_, _, rfl, rfl, ih⟩⟩
   have repp : Rep (upd H' p (HO.lst [])) (.ref p) (.lst []) := ⟨p, [], rfl, ac_, rfl⟩
   have pO : p ≠ O := (ag_ hO' np).symm
   have pR : p ≠ R := (ag_ hR' np).symm
   have dle : dep (.lst (rem.map fun n : Nat => Dt.int n)) ≤ 60 := by
    have : deps (rem.map fun n : Nat => Dt.int n) = 0 := by
     clear hO' pm repO
     induction rem with
     | nil => rfl
     | cons x r ih => show max 0 (deps (r.map fun n : Nat => Dt.int n)) = 0; rw [ih]; rfl
    show deps _ + 1 ≤ 60
    omega
   have sH2 : Same S (upd H' p (HO.lst [])) := sH.trans Sp
   generalize upd H' p (HO.lst []) = Hq at *
   have hOq := Sp _ _ hO'
   have hRq := Sp _ _ hR'
   refine ⟨_, repO, _, repp, decide (rem = []), by
    cases rem with
    | nil => rfl
    | cons x r => simp [deq, deqs], dle, ?_⟩
   refine ite2 (fun hne => ?_) (fun hemp => ?_)
   ·have rne : rem ≠ [] := of_decide_eq_false hne
    have rl0 : 0 < rem.length := List.length_pos_iff.mpr rne
    refine ⟨_, N_ok, ?_⟩
    obtain ⟨t, ht, tl⟩ : ∃ t : Nat, z % (((rem.map fun n : Nat => V.int n).length : Nat) : Int) = t ∧ t < rem.length := by
     rw [List.length_map]
     have a1 := Int.emod_nonneg z (show (rem.length : Int) ≠ 0 by omega)
     have a2 := Int.emod_lt_of_pos z (show (0 : Int) < (rem.length : Int) by omega)
     exact ⟨(z % (rem.length : Int)).toNat, by omega, by omega⟩
    have rl16 : rem.length ≤ 16 := by
     have := pm.length_eq
     rw [List.length_append, List.length_range] at this
     omega
    have er : ((rem.map fun n : Nat => V.int n).eraseIdx t) = (rem.eraseIdx t).map fun n : Nat => V.int n := iJ_ _ _ _
    have el : (rem.eraseIdx t).length = rem.length - 1 := List.length_eraseIdx_of_lt tl
    have lg : ((((rem.map fun n : Nat => V.int n).eraseIdx t).length : Int) + 1).natAbs.log2 < 9000 := by
     rw [er, List.length_map]
     by_cases h0 : (((rem.eraseIdx t).length : Int) + 1).natAbs = 0
     ·rw [h0]; decide
     ·rw [Nat.log2_lt h0]
      exact Nat.lt_of_le_of_lt (show (((rem.eraseIdx t).length : Int) + 1).natAbs ≤ 1000 by omega) (by decide +kernel)
    have hp0 : rem[t]? = some (rem[t]) := List.getElem?_eq_getElem tl
    have pn : rem[t] < bs.length := List.mem_range.mp (pm.mem_iff.mp (List.mem_append_right _ (List.getElem_mem tl)))
    have pm2 : (dn ++ [rem[t]] ++ rem.eraseIdx t).Perm (List.range bs.length) := by
     refine List.Perm.trans ?_ pm
     rw [List.append_assoc]
     exact (g8_ tl).append_left dn
    generalize rem[t] = pt at *
    refine ⟨.inl ⟨_, .inl (.inl hOq)⟩, _, .inl hOq, by rw [List.length_map]; omega, _, hOq, by rw [ht]; omega, by rw [ht]; omega, t, ?_, .int pt, by rw [List.getElem?_map, hp0]; rfl, by omega, lg, ?_⟩
    ·rw [ht, List.length_map]
     rw [seqIndex_of (by omega) (by omega), Int.toNat_natCast]
    rw [er]
    have OR : O ≠ R := RO.symm
    have sH3 : Same S (upd Hq O (HO.lst ((rem.eraseIdx t).map fun n : Nat => V.int n))) := bM_ sH2 SO
    have hR3 : upd Hq O (HO.lst ((rem.eraseIdx t).map fun n : Nat => V.int n)) R = some (.lst ys) := by rw [af_ RO]; exact hRq
    have hO3 := ac_ (H := Hq) (a := O) (o := HO.lst ((rem.eraseIdx t).map fun n : Nat => V.int n))
    generalize upd Hq O (HO.lst ((rem.eraseIdx t).map fun n : Nat => V.int n)) = H3 at *
    have s63 : Same H6 H3 := sS.trans sH3
    obtain ⟨a1, ea1, at1, ra1⟩ := hT6.tn.at_ (p := pt) (by omega)
    have ra3 := s63 _ _ ra1
    have lt : ∀ v ∈ T'.getD pt [], v < wns.length := fun v hv => by
     rw [nl2]
     refine gr'.lt v ?_
     have hm : T'.getD pt [] ∈ T' := by
      rw [List.getD_eq_getElem?_getD, List.getElem?_eq_getElem (show pt < T'.length by omega)]
      exact List.getElem_mem _
     exact List.mem_flatten.mpr ⟨_, hm, hv⟩
    have rl30 : (T'.getD pt []).length ≤ 30 := by
     have := rl_le T' pt
     rw [gr'.tot] at this
     unfold rl at this
     omega
    have atn : atI (nms.map V.str) ((pt : Nat) : Int) = some (.str (nms.getD pt Str.empty)) := b8_ (by omega) (by rw [Int.toNat_natCast]; exact el_ (by omega))
    refine ⟨.inl ⟨_, .inl (.inl hR3)⟩, _, _, rfl, s63 _ _ hD1, _, atn, _, _, rfl, s63 _ _ hT6.tn.top, _, at1, a1, rfl, ⟨_, .inl (.inl ra3)⟩, ?_⟩
    generalize hrow : T'.getD pt [] = row at *
    have hD2' := s63 _ _ hD2
    refine bL_ (n := row.length) (B := fun _ => none) (Pσ := fun σ => ∃ e, σ = [e, some (.ref D2)]) (ds := (row.map fun v => wns.getD v Str.empty).map dS) (fun b o e => by cases e) ⟨_, rfl⟩ (by simp) (by omega) (fun j Hj hj sj => ⟨_, .int (row[j] : Nat), .inl (.inl (sj _ _ ra3)), by simp [hj]⟩) (fun Hj sj => ⟨_, .inl (.inl (sj _ _ ra3)), by simp⟩) ?_ ?_
    ·rintro D j x d σ' Hj Hj' hD hDo hsj hj hdj ⟨rfl, hy⟩ ⟨e, rfl⟩ R0 kR
     have hx := hy _ (.inl (.inl (hsj _ _ ra3)))
     rw [List.getElem?_map, List.getElem?_eq_getElem hj] at hx
     cases hx
     have hd : d = dS (wns.getD row[j] Str.empty) := by
      rw [List.getElem?_map, List.getElem?_map, List.getElem?_eq_getElem hj] at hdj
      exact (Option.some.inj hdj).symm
     walk_at "rd"
     refine ⟨_, hsj _ _ hD2', _, b8_ (by omega) (by rw [Int.toNat_natCast]; exact el_ (lt _ (List.getElem_mem hj))), kR _ _ _ ⟨_, rfl⟩ (Same.refl _) ?_⟩
     rw [hd]
     exact rfl
    ·intro D H4 hD s4 rep4
     refine ⟨by decide, fun q nq => ?_⟩
     have hD3 : H3 D = none := hD
     obtain ⟨_, us, e4, hD4', hus⟩ := id rep4
     cases e4
     have hD4 := (aP_ hD4').2
     rw [gv_ hus] at hD4
     have qR : q ≠ R := (ag_ (s4 _ _ hR3) nq).symm
     have qO : q ≠ O := (ag_ (s4 _ _ hO3) nq).symm
     have g1 : Same S (grow S H3 H4) := bS_ sH3
     have g2 : Same (grow S H3 H4) H4 := ga_ sH3 s4
     have gO : grow S H3 H4 O = none := by rw [cZ_ hO3]; exact SO
     have gR : grow S H3 H4 R = none := by rw [cZ_ hR3]; exact SR
     have gD : grow S H3 H4 D = some (.lst ((row.map fun v => wns.getD v Str.empty).map V.str)) := by rw [f9_ hD3]; exact hD4
     have g3 : Same (grow S H3 H4) (upd (grow S H3 H4) q (.tup [.str (nms.getD pt Str.empty), .ref D])) := a7_ g2 nq
     have g4 : Same (upd (grow S H3 H4) q (.tup [.str (nms.getD pt Str.empty), .ref D])) (upd H4 q (.tup [.str (nms.getD pt Str.empty), .ref D])) := fO_ g2 nq
     have gO2 : upd (grow S H3 H4) q (.tup [.str (nms.getD pt Str.empty), .ref D]) O = none := by rw [af_ qO.symm]; exact gO
     have gR2 : upd (grow S H3 H4) q (.tup [.str (nms.getD pt Str.empty), .ref D]) R = none := by rw [af_ qR.symm]; exact gR
     have yl : ys.length = dn.length := by rw [repS.length, List.length_map]; unfold rowsOf; rw [List.length_map]
     have dl : dn.length ≤ 16 := by
      have := pm.length_eq
      rw [List.length_append, List.length_range] at this
      omega
     refine ⟨ys, by rw [af_ qR.symm]; exact s4 _ _ hR3, small1000 (by omega), ⟨_, _, upd (grow S H3 H4) q (.tup [.str (nms.getD pt Str.empty), .ref D]), rem.eraseIdx t, dn ++ [pt], ys ++ [.ref q], rfl, sS.trans (g1.trans g3), bM_ g4 gR2, gO2, gR2, ?_, ac_, ?_, pm2⟩, ?_⟩
     ·rw [af_ OR, af_ qO.symm]
      exact s4 _ _ hO3
     ·have er2 : rowsOf (fun p => nms.getD p Str.empty) (fun v => wns.getD v Str.empty) T' (dn ++ [pt]) = rowsOf (fun p => nms.getD p Str.empty) (fun v => wns.getD v Str.empty) T' dn ++ [(nms.getD pt Str.empty, row.map fun v => wns.getD v Str.empty)] := by
       unfold rowsOf
       rw [List.map_append, List.map_cons, List.map_nil, hrow]
      rw [er2, List.map_append]
      refine Reps.append (Reps.mono (g1.trans g3) _ repS) ⟨_, _, rfl, ⟨q, _, rfl, ac_, _, _, rfl, rfl, _, _, rfl, ⟨D, _, rfl, g3 _ _ gD, cf_ _⟩, rfl⟩, rfl⟩
     ·unfold lenO
      rw [af_ OR, af_ qO.symm, s4 _ _ hO3, hO']
      show ((rem.eraseIdx t).map _).length < (rem.map _).length
      rw [List.length_map, List.length_map]
      omega
   ·have re : rem = [] := by
     by_cases h : rem = []
     ·exact h
     ·exact absurd (decide_eq_false h) hemp
    subst re
    rw [List.append_nil] at pm
    try walk_at "rd"
    refine ⟨Nat.zero_le _, fun L nL => ⟨by omega, by omega, ?_⟩⟩
    rw [show Int.toNat (W : Int) = W by omega]
    have s6q : Same H6 Hq := sS.trans sH2
    have hD2q := s6q _ _ hD2
    have hD1q := s6q _ _ hD1
    refine bK_ (fun i σ H' => ∃ (z : Int) (e13 e14 : Option V) (S' : Hp) (vs : List V) (wl : List (Str × (Int × Int))), σ = [some (.ref a), some (.int 0), some (.int 9), some (.int z), some (.int Pp), some (.int W), some (.ref l), some (.ref D1), some (.ref D2), some (.ref O), some (.ref R), e11, some (.ref L), e13, e14] ∧ Same Hq S' ∧ Same S' H' ∧ S' L = none ∧ H' L = some (.lst vs) ∧ Reps S' vs (wl.map dWo) ∧ wl.map (·.1) = wns.take i ∧ ∀ x ∈ wl, Ws x.2) ⟨z, none, none, Hq, [], [], rfl, Same.refl _, Same.new nL, nL, ac_, rfl, rfl, fun x hx => by cases hx⟩ ?_ ?_
    ·rintro i σ H5 hi ⟨z, e13, e14, S', vs, wl, rfl, sq, sS5, SL, hL, repW, wnm, wws⟩
     have hi' : i < W := hi
     have iw : i < wns.length := by omega
     walk_at "rd"
     refine ⟨z, rfl, fun pw qw H7 t0 b0 y0 s7 npw nqw tw hpw hqw => ?_⟩
     have s57 := sS5.trans s7
     have wll : wl.length = i := by
      have := congrArg List.length wnm
      rw [List.length_map, List.length_take] at this
      omega
     have vl : vs.length = i := by rw [repW.length, List.length_map]; exact wll
     refine ⟨pw, rfl, _, SqT.of hpw, rfl, _, _, rfl, _, _, rfl, rfl, .inl ⟨_, .inl (.inl (s7 _ _ hL))⟩, _, (sq.trans s57) _ _ hD2q, _, b8_ (by omega) (by rw [show Int.toNat (0 + (i : Nat) : Int) = i by omega]; exact el_ iw), by decide, fun q nq => ?_⟩
     have g1 : Same S' (grow S' H5 H7) := bS_ sS5
     have g2 : Same (grow S' H5 H7) H7 := ga_ sS5 s7
     have gL : grow S' H5 H7 L = none := by rw [cZ_ hL]; exact SL
     have gq : grow S' H5 H7 qw = some (.tup [.int (nf t0 b0).1, .int (nf t0 b0).2]) := by rw [f9_ nqw]; exact hqw
     have qL : q ≠ L := (ag_ (s7 _ _ hL) nq).symm
     have g3 : Same (grow S' H5 H7) (upd (grow S' H5 H7) q (.tup [.str (wns.getD i Str.empty), .ref qw])) := a7_ g2 nq
     have g4 : Same (upd (grow S' H5 H7) q (.tup [.str (wns.getD i Str.empty), .ref qw])) (upd H7 q (.tup [.str (wns.getD i Str.empty), .ref qw])) := fO_ g2 nq
     have gL2 : upd (grow S' H5 H7) q (.tup [.str (wns.getD i Str.empty), .ref qw]) L = none := by rw [af_ qL.symm]; exact gL
     refine ⟨vs, by rw [af_ qL.symm]; exact s7 _ _ hL, small1000 (by omega), y0, rfl, upd (grow S' H5 H7) q (.tup [.str (wns.getD i Str.empty), .ref qw]), sq.trans (g1.trans g3), bM_ g4 gL2, gL2, wl ++ [(wns.getD i Str.empty, nf t0 b0)], ?_, ?_, fun x hx => (List.mem_append.mp hx).elim (wws x) fun hx => by rw [List.mem_singleton.mp hx]; exact tw⟩
     ·rw [List.map_append]
      exact Reps.append (Reps.mono (g1.trans g3) _ repW) ⟨_, _, rfl, ⟨q, _, rfl, ac_, _, _, rfl, rfl, _, _, rfl, ⟨qw, _, rfl, g3 _ _ gq, _, _, rfl, rfl, _, _, rfl, rfl, rfl⟩, rfl⟩, rfl⟩
     ·rw [List.map_append, wnm, List.take_succ, List.getElem?_eq_getElem iw, List.getD_eq_getElem?_getD, List.getElem?_eq_getElem iw]
      rfl
    ·rintro σ H5 ⟨z, e13, e14, S', vs, wl, rfl, sq, sS5, SL, hL, repW, wnm, wws⟩
     rw [List.take_of_length_le (by omega)] at wnm
     walk_at "rd"
     have wll : wl.length = W := by rw [← nl2, ← wnm, List.length_map]
     have vl : vs.length = wl.length := by rw [repW.length, List.length_map]
     have sq5 := sq.trans sS5
     have c1 : cutV (nms.map V.str) none (some ((Pp : Nat) : Int)) = (nms.take Pp).map V.str := by rw [mF_ _ _ (by rw [List.length_map]; omega), List.map_take]
     refine ⟨_, sq5 _ _ hD1q, fun q nq => ?_⟩
     rw [c1]
     have Sq : Same H5 (upd H5 q (HO.lst ((nms.take Pp).map V.str))) := Same.new nq
     have hq := ac_ (H := H5) (a := q) (o := HO.lst ((nms.take Pp).map V.str))
     generalize upd H5 q (HO.lst ((nms.take Pp).map V.str)) = H6' at *
     refine ⟨L, vs, fun i => wns.getD i Str.empty, rfl, Sq _ _ hL, by omega, fun i hi => ?_, fun i j hi hj e => hK_ nd2 (by omega) (by omega) e, fun l' zs nl' hpm => ?_⟩
     ·obtain ⟨d, hd, hr⟩ := repW.of_get (i := i) (x := vs[i]) (List.getElem?_eq_getElem hi)
      rw [List.getElem?_map, List.getElem?_eq_getElem (by omega)] at hd
      rw [← Option.some.inj hd] at hr
      obtain ⟨aa, _, ea, haa, _, _, e1, hx1, _, _, e2, hx2, e3⟩ := hr
      obtain ⟨ww, _, ew, hww, _, _, e4, hy1, _, _, e5, hy2, e6⟩ := hx2
      subst e6 e5 e4 e3 e2 e1
      cases hx1
      cases hy1
      cases hy2
      subst ew
      have en : (wl[i]'(by omega)).1 = wns.getD i Str.empty := by
       rw [← wnm, List.getD_eq_getElem?_getD, List.getElem?_map, List.getElem?_eq_getElem (by omega)]
       rfl
      rw [en] at haa
      exact ⟨aa, ww, _, by rw [List.getElem?_eq_getElem hi, ea], Sq _ _ (sS5 _ _ haa), Sq _ _ (sS5 _ _ hww)⟩
     ·refine ⟨by decide, fun pe npe => ?_⟩
      obtain ⟨wl', pw, repW'⟩ := lA_ dWo hpm repW
      have Sl : Same H6' (upd H6' l' (HO.lst zs)) := Same.new nl'
      have hl' := ac_ (H := H6') (a := l') (o := HO.lst zs)
      generalize upd H6' l' (HO.lst zs) = H7' at *
      have Se : Same H7' (upd H7' pe (HO.tup [V.ref q, V.ref R, V.ref l'])) := Same.new npe
      have he := ac_ (H := H7') (a := pe) (o := HO.tup [V.ref q, V.ref R, V.ref l'])
      generalize upd H7' pe (HO.tup [V.ref q, V.ref R, V.ref l']) = H8' at *
      have tot : Same H5 H8' := Sq.trans (Sl.trans Se)
      refine k (.ref pe) ⟨nms.take Pp, rowsOf (fun p => nms.getD p Str.empty) (fun v => wns.getD v Str.empty) T' dn, wl'⟩ H8' (s0.trans (s6.trans (s6q.trans (sq5.trans tot)))) ⟨pe, _, rfl, he, _, _, rfl, ⟨q, _, rfl, (Sl.trans Se) _ _ hq, cf_ _⟩, _, _, rfl, ⟨R, ys, rfl, tot _ _ (sq5 _ _ hRq), Reps.mono (sH2.trans (sq5.trans tot)) _ repS⟩, _, _, rfl, ⟨l', zs, rfl, Se _ _ hl', Reps.mono (sS5.trans tot) _ repW'⟩, rfl⟩ ?_ ?_ ?_
      ·exact oc_ gr' (by rw [← bl]; exact pm) P6 W15 (fun x y hx hy e => hK_ nd1 (by omega) (by omega) e) (fun x y hx hy e => hK_ nd2 (by omega) (by omega) e) (by rw [List.length_take]; omega) (by rw [pw.length_eq]; omega)
      ·have nl1' : nms.length = T'.length := by omega
       refine ⟨List.Nodup.sublist (List.take_sublist _ _) nd1, fun x hx => ?_, by rw [List.length_take]; omega⟩
       obtain ⟨j, hj, ej⟩ := List.mem_iff_getElem.mp hx
       have hj2 : j < nms.length := by rw [List.length_take] at hj; omega
       refine List.mem_map.mpr ⟨_, List.mem_map.mpr ⟨j, pm.mem_iff.mpr (List.mem_range.mpr (by omega)), rfl⟩, ?_⟩
       show nms.getD j Str.empty = x
       rw [List.getD_eq_getElem?_getD, List.getElem?_eq_getElem hj2]
       rw [List.getElem_take] at ej
       exact ej
      ·have pn := pw.map (·.1)
       rw [wnm] at pn
       refine ⟨pn.nodup_iff.mpr nd2, fun x => ?_, fun x hx => wws x (pw.mem_iff.mp hx)⟩
       rw [pn.mem_iff]
       have al := jZ_ (S := Str) (ns := fun p => nms.getD p Str.empty) (ws := fun v => wns.getD v Str.empty) (T := T') (ord := dn) (by rw [← bl]; exact pm)
       show x ∈ wns ↔ x ∈ ((rowsOf _ _ T' dn).map (·.2)).flatten
       rw [al.mem_iff]
       constructor
       ·intro hx
        obtain ⟨j, hj, ej⟩ := List.mem_iff_getElem.mp hx
        refine List.mem_map.mpr ⟨j, List.count_pos_iff.mp (by rw [gr'.two j (by omega)]; decide), ?_⟩
        show wns.getD j Str.empty = x
        rw [List.getD_eq_getElem?_getD, List.getElem?_eq_getElem hj]
        exact ej
       ·intro hx
        obtain ⟨j, hj, ej⟩ := List.mem_map.mp hx
        have hl := gr'.lt j hj
        have ej' : wns.getD j Str.empty = x := ej
        rw [List.getD_eq_getElem?_getD, List.getElem?_eq_getElem (show j < wns.length by omega)] at ej'
        rw [← ej']
        exact List.getElem_mem _
def dE (e : End Str) : Dt := .tup [.str e.1, .int e.2]
def kvsOf (acc : List (Str × List (End Str))) (ls : List Addr) : List (Key × V) := List.zipWith (fun kv l => (Sum.inr kv.1, V.ref l)) acc ls
structure DE (en : End Str → Dt) (S H : Hp) (d : Addr) (ls : List Addr) (acc : List (Str × List (End Str))) : Prop where
 sH : Same S H
 dict : H d = some (.dK (kvsOf acc ls))
 len : ls.length = acc.length
 nd : ls.Nodup
 dn : d ∉ ls
 lst : ∀ (i : Nat) (l : Addr) (kv : Str × List (End Str)), ls[i]? = some l → acc[i]? = some kv → ∃ vs, H l = some (.lst vs) ∧ Reps S vs (kv.2.map en)
 fd : S d = none
 fl : ∀ l ∈ ls, S l = none
theorem DE.mono {en : End Str → Dt} {S H H' : Hp} {d : Addr} {ls : List Addr} {acc : List (Str × List (End Str))} (h : DE en S H d ls acc) (s : Same H H') : DE en S H' d ls acc :=
 ⟨h.sH.trans s, s _ _ h.dict, h.len, h.nd, h.dn, fun i l kv h1 h2 => (h.lst i l kv h1 h2).elim fun vs z => ⟨vs, s _ _ z.1, z.2⟩, h.fd, h.fl⟩
theorem DE.stay {en : End Str → Dt} {S H : Hp} {d : Addr} {ls : List Addr} {acc : List (Str × List (End Str))} (h : DE en S H d ls acc) {q : Addr} (nq : H q = none) (o : HO) : DE en (upd S q o) (upd H q o) d ls acc := by
 have qd : q ≠ d := (ag_ h.dict nq).symm
 have ql : ∀ l ∈ ls, q ≠ l := fun l hl e => by
  obtain ⟨i, hi, ei⟩ := List.mem_iff_getElem.mp hl
  obtain ⟨vs, z, _⟩ := h.lst i l (acc[i]'(by rw [← h.len]; exact hi)) (by rw [List.getElem?_eq_getElem hi, ei]) (List.getElem?_eq_getElem _)
  rw [← e, nq] at z
  cases z
 exact ⟨fO_ h.sH nq, by rw [af_ qd.symm]; exact h.dict, h.len, h.nd, h.dn, fun i l kv h1 h2 => (h.lst i l kv h1 h2).elim fun vs z => ⟨vs, by rw [af_ (ql l (List.mem_of_getElem? h1)).symm]; exact z.1, Reps.mono (a7_ h.sH nq) _ z.2⟩, by rw [af_ qd.symm]; exact h.fd, fun l hl => by rw [af_ (ql l hl).symm]; exact h.fl l hl⟩
theorem jx_ {acc : List (Str × List (End Str))} {ls : List Addr} (h : ls.length = acc.length) : (kvsOf acc ls).length = acc.length := by
 unfold kvsOf
 rw [List.length_zipWith]
 omega
theorem dV_ {w : Str} : ∀ {acc : List (Str × List (End Str))} {ls : List Addr} {i : Nat} {es : List (End Str)}, ls.length = acc.length → acc[i]? = some (w, es) → (∀ j kv, j < i → acc[j]? = some kv → kv.1 ≠ w) → ∃ l, ls[i]? = some l ∧ valV (kvsOf acc ls) (.inr w) = some (.ref l)
 | [], _, _, _, _, h, _ => by cases h
 | kv :: acc, [], _, _, h, _, _ => by cases h
 | kv :: acc, l :: ls, 0, es, _, h, _ => by
  cases h
  exact ⟨l, rfl, be_ rfl⟩
 | kv :: acc, l :: ls, i + 1, es, hl, h, hn => by
  obtain ⟨l', h1, h2⟩ := dV_ (w := w) (acc := acc) (ls := ls) (i := i) (by simpa using hl) h fun j kv hj hkv => hn (j + 1) kv (by omega) hkv
  refine ⟨l', h1, ?_⟩
  show valV ((Sum.inr kv.1, V.ref l) :: kvsOf acc ls) (.inr w) = _
  rw [a9_ (fun z => hn 0 kv (by omega) rfl (Sum.inr.inj z))]
  exact h2
theorem fT_ {w : Str} : ∀ {acc : List (Str × List (End Str))} {ls : List Addr}, (∀ kv ∈ acc, kv.1 ≠ w) → valV (kvsOf acc ls) (.inr w) = none
 | [], _, _ => by unfold kvsOf; rw [List.zipWith_nil_left]; rfl
 | kv :: acc, [], _ => rfl
 | kv :: acc, l :: ls, h => by
  show valV ((Sum.inr kv.1, V.ref l) :: kvsOf acc ls) (.inr w) = _
  rw [a9_ (fun z => h kv List.mem_cons_self (Sum.inr.inj z))]
  exact fT_ fun kv hkv => h kv (List.mem_cons_of_mem _ hkv)
theorem mi_ {w : Str} {acc : List (Str × List (End Str))} {ls : List Addr} {q : Addr} {e : End Str} (hl : ls.length = acc.length) (h : ∀ kv ∈ acc, kv.1 ≠ w) : putK (kvsOf acc ls) (.inr w) (.ref q) = kvsOf (acc ++ [(w, [e])]) (ls ++ [q]) := by
 have hv := fT_ (ls := ls) h
 unfold putK
 rw [if_neg (by rw [c0_, hv]; decide)]
 unfold kvsOf
 rw [List.zipWith_append hl.symm]
 rfl
theorem DE.old {en : End Str → Dt} {S H : Hp} {d : Addr} {ls : List Addr} {acc : List (Str × List (End Str))} (h : DE en S H d ls acc) {w : Str} {e : End Str} {i : Nat} {es : List (End Str)} {l : Addr} {t : V} {vs : List V} (hi : acc[i]? = some (w, es)) (hl : ls[i]? = some l) (hv : H l = some (.lst vs)) (hr : Reps S vs (es.map en)) (ht : Rep S t (en e)) :
  DE en S (upd H l (.lst (vs ++ [t]))) d ls (acc.set i (w, es ++ [e])) := by
 have dl : d ≠ l := fun z => h.dn (by rw [z]; exact List.mem_of_getElem? hl)
 have il : i < ls.length := (List.getElem?_eq_some_iff.mp hl).1
 have ia : i < acc.length := by rw [← h.len]; exact il
 refine ⟨bM_ h.sH (h.fl l (List.mem_of_getElem? hl)), ?_, by rw [List.length_set]; exact h.len, h.nd, h.dn, fun j l' kv h1 h2 => ?_, h.fd, h.fl⟩
 ·rw [af_ dl, h.dict]
  congr 2
  unfold kvsOf
  apply List.ext_getElem
  ·simp
  ·intro j g1 g2
   rw [List.getElem_zipWith, List.getElem_zipWith]
   by_cases z : i = j
   ·subst z
    rw [List.getElem_set_self]
    rw [List.getElem?_eq_getElem ia] at hi
    rw [Option.some.inj hi]
   ·rw [List.getElem_set_ne z]
 ·rw [List.getElem?_set] at h2
  by_cases z : i = j
  ·subst z
   rw [if_pos rfl, if_pos ia] at h2
   cases h2
   rw [hl] at h1
   cases h1
   refine ⟨_, ac_, ?_⟩
   rw [List.map_append]
   exact Reps.append hr ⟨_, _, rfl, ht, rfl⟩
  ·rw [if_neg z] at h2
   obtain ⟨vs', g1, g2⟩ := h.lst j l' kv h1 h2
   have ll : l' ≠ l := fun y => by
    rw [y] at h1
    exact z ((List.getElem?_inj il h.nd).mp (hl.trans h1.symm))
   exact ⟨vs', by rw [af_ ll]; exact g1, g2⟩
theorem DE.new {en : End Str → Dt} {S H : Hp} {d : Addr} {ls : List Addr} {acc : List (Str × List (End Str))} (h : DE en S H d ls acc) {w : Str} {e : End Str} {q : Addr} {t : V} (hn : ∀ kv ∈ acc, kv.1 ≠ w) (hq : H q = some (.lst [])) (qd : q ≠ d) (ql : q ∉ ls) (Sq : S q = none) (ht : Rep S t (en e)) :
  DE en S (upd (upd H d (.dK (putK (kvsOf acc ls) (.inr w) (.ref q)))) q (.lst [t])) d (ls ++ [q]) (acc ++ [(w, [e])]) := by
 refine ⟨bM_ (bM_ h.sH h.fd) Sq, ?_, by simp [h.len], ?_, ?_, fun j l' kv h1 h2 => ?_, h.fd, fun l hl => ?_⟩
 ·rw [af_ qd.symm, ac_, mi_ h.len hn]
 ·exact List.nodup_append.mpr ⟨h.nd, by simp, fun x hx y hy z => ql (by rw [← List.mem_singleton.mp hy, ← z]; exact hx)⟩
 ·intro z
  rcases List.mem_append.mp z with z | z
  ·exact h.dn z
  ·exact qd (List.mem_singleton.mp z).symm
 ·by_cases hj : j < ls.length
  ·rw [List.getElem?_append_left hj] at h1
   rw [List.getElem?_append_left (by rw [← h.len]; exact hj)] at h2
   obtain ⟨vs', g1, g2⟩ := h.lst j l' kv h1 h2
   have e1 : l' ≠ q := fun z => ql (by rw [← z]; exact List.mem_of_getElem? h1)
   have e2 : l' ≠ d := fun z => h.dn (by rw [← z]; exact List.mem_of_getElem? h1)
   exact ⟨vs', by rw [af_ e1, af_ e2]; exact g1, g2⟩
  ·rw [List.getElem?_append_right (by omega)] at h1
   rw [List.getElem?_append_right (by rw [← h.len]; omega)] at h2
   have e1 := List.mem_singleton.mp (List.mem_of_getElem? h1)
   have e2 := List.mem_singleton.mp (List.mem_of_getElem? h2)
   subst e1 e2
   exact ⟨_, ac_, _, _, rfl, ht, rfl⟩
 ·rcases List.mem_append.mp hl with z | z
  ·exact h.fl l z
  ·rw [List.mem_singleton.mp z]; exact Sq
theorem dK_ {H : Hp} {v : V} {N : Net Str} (h : Rep H v (dNet N)) : ∃ (pn p0 p1 p2 : Addr) (rs ws : List V), v = .ref pn ∧ H pn = some (.tup [.ref p0, .ref p1, .ref p2]) ∧ H p0 = some (.lst (N.posts.map V.str)) ∧ H p1 = some (.lst rs) ∧ Reps H rs (N.rows.map dRw) ∧ H p2 = some (.lst ws) ∧ Reps H ws (N.worths.map dWo) := by
 obtain ⟨pn, _, rfl, hn, _, _, rfl, ⟨p0, ps, rfl, h0, r0⟩, _, _, rfl, ⟨p1, rs, rfl, h1, r1⟩, _, _, rfl, ⟨p2, ws, rfl, h2, r2⟩, rfl⟩ := h
 rw [gv_ r0] at h0
 exact ⟨pn, p0, p1, p2, rs, ws, rfl, hn, h0, h1, r1, h2, r2⟩
theorem nx_ {H : Hp} {v : V} {r : Str × List Str} (h : Rep H v (dRw r)) : ∃ q l, v = .ref q ∧ H q = some (.tup [.str r.1, .ref l]) ∧ H l = some (.lst (r.2.map V.str)) := by
 obtain ⟨q, _, rfl, hq, x, _, rfl, hx, _, _, rfl, ⟨l, us, rfl, hl, rl⟩, rfl⟩ := h
 rw [gv_ rl] at hl
 cases hx
 exact ⟨q, l, rfl, hq, hl⟩
theorem eO_ {H : Hp} {rs : List V} {rows : List (Str × List Str)} {i : Nat} {x : V} (h : Reps H rs (rows.map dRw)) (e : rs[i]? = some x) : ∃ r q l, rows[i]? = some r ∧ x = .ref q ∧ H q = some (.tup [.str r.1, .ref l]) ∧ H l = some (.lst (r.2.map V.str)) := by
 obtain ⟨d, hd, hr⟩ := h.of_get e
 rw [List.getElem?_map] at hd
 cases e2 : rows[i]? with
 | none => rw [e2] at hd; cases hd
 | some r =>
  rw [e2] at hd
  rw [← Option.some.inj hd] at hr
  obtain ⟨q, l, h1, h2, h3⟩ := nx_ hr
  exact ⟨r, q, l, rfl, h1, h2, h3⟩
theorem fg_ (p : Str) : ∀ (ws : List Str) (k j : Nat), (occRow p k ws)[j]? = (ws[j]?).map fun x => (x, (p, k + j))
 | [], _, _ => by simp [occRow]
 | w :: ws, k, 0 => rfl
 | w :: ws, k, j + 1 => by
  show (occRow p (k + 1) ws)[j]? = (ws[j]?).map fun x => (x, (p, k + (j + 1)))
  rw [fg_ p ws (k + 1) j, show k + 1 + j = k + (j + 1) by omega]
theorem g9_ (p : Str) (ws : List Str) (k : Nat) : (occRow p k ws).length = ws.length := by
 have := congrArg List.length (e9_ p ws k)
 rwa [List.length_map] at this
theorem fU_ {rows : List (Str × List Str)} {i : Nat} {r : Str × List Str} (h : rows[i]? = some r) : occ (rows.take (i + 1)) = occ (rows.take i) ++ occRow r.1 0 r.2 := by
 unfold occ
 rw [List.take_succ, h, List.map_append, List.flatten_append]
 simp
theorem j9_ {N : Net Str} (ok : NetOk N) (l m : List (Str × End Str)) (h : l ++ m = occ N.rows) : (endsL l).length ≤ 30 := by
 have e : ∀ l : List (Str × End Str), (endsL l).length ≤ l.length := fun l => by
  have key : ∀ n (l : List (Str × End Str)), l.length = n → (endsL l).length ≤ n := fun n => by
   induction n with
   | zero => intro l h; rw [List.eq_nil_of_length_eq_zero h]; exact Nat.le_refl _
   | succ n ih =>
    intro l h
    obtain ⟨m, x, rfl⟩ : ∃ m x, l = m ++ [x] := ⟨l.dropLast, l.getLast (fun e => by rw [e] at h; cases h), (List.dropLast_concat_getLast _).symm⟩
    rw [dS_]
    have h2 := ih m (by simpa using h)
    have h3 := congrArg List.length (dz_ (w := x.1) (e := x.2) (a := endsL m))
    rw [List.length_map] at h3
    split at h3
    ·rw [List.length_map] at h3; omega
    ·rw [List.length_append, List.length_map] at h3
     simp at h3
     omega
  exact key _ l rfl
 have h1 := e l
 have h2 := congrArg List.length h
 have h3 := congrArg List.length (gm_ N.rows)
 rw [List.length_map] at h3
 have h4 := ok.tot
 unfold Net.all at h4
 rw [List.length_append] at h2
 omega
theorem ha_ {N : Net Str} (ok : NetOk N) (l m : List (Str × End Str)) (h : l ++ m = occ N.rows) : ∀ kv ∈ endsL l, kv.2.length ≤ 30 := fun kv hkv => by
 have h0 := (b7_ _ l rfl).2.1 kv hkv
 have h1 : kv.2.length ≤ l.length := by
  rw [h0, List.length_map]
  exact List.length_filter_le _ _
 have h2 := congrArg List.length h
 have h3 := congrArg List.length (gm_ N.rows)
 rw [List.length_map] at h3
 have h4 := ok.tot
 unfold Net.all at h4
 rw [List.length_append] at h2
 omega
theorem mj_ {H : Hp} {a b : Addr} {x y : HO} (h : a ≠ b) : upd (upd H a x) b y = upd (upd H b y) a x := by
 funext c
 by_cases h1 : c = a
 ·subst h1
  rw [af_ h, ac_, ac_]
 ·by_cases h2 : c = b
  ·subst h2
   rw [ac_, af_ h1, ac_]
  ·rw [af_ h2, af_ h1, af_ h1, af_ h2]
abbrev s_ends_by_wire : Stmt := stN 18
theorem a2_ : FnScope ["net", "ends", "point", "wires", "place", "wire"] ["net"] (defScope s_ends_by_wire) := ⟨rfl, rfl, rfl, by decide +kernel, rfl, by decide +kernel, by decide +kernel⟩
theorem fh_ : LK s_ends_by_wire "net" .local := by decide +kernel
theorem bJ_ : LK s_ends_by_wire "ends" .local := by decide +kernel
theorem cN_ : LK s_ends_by_wire "point" .local := by decide +kernel
theorem cO_ : LK s_ends_by_wire "wires" .local := by decide +kernel
theorem cP_ : LK s_ends_by_wire "place" .local := by decide +kernel
theorem cQ_ : LK s_ends_by_wire "wire" .local := by decide +kernel
theorem cD_ : LK s_ends_by_wire "enumerate" .globalImplicit := by decide +kernel
def sp_ends : Sp := fun vs H Q _ => ∃ (v : V) (N : Net Str), vs = [v] ∧ Rep H v (dNet N) ∧ NetOk N ∧ ∀ d S ls H', Same H S → DE dE S H' d ls (endsN N) → H d = none → Q (.ref d) H'
theorem gx_ (T : Txt K mg) (F : Fn0 K mg "ends_by_wire" s_ends_by_wire) : Cal P w K mg base "ends_by_wire" ["net"] 1 sp_ends := by
 refine aJ_ F a2_ (fun _ _ _ _ _ _ us hl => match us, hl with | [_], _ => rfl) ?len ?body
 case len => rintro vs H Q E ⟨a, b, rfl, _⟩; rfl
 case body =>
  intro f cdv A outer s H vs Q E hr h
  obtain ⟨v, N, rfl, hv, ok, k⟩ := h
  refine' ⟨_, ?D, ?R⟩
  case D =>
   refine' ad_ ?g1 ?g2
   case g1 => exact ai_ (i := 1) a2_.nd rfl bJ_ hy_
   case' g2 => refine' ad_ ?g3 ?g4
   case' g3 => refine' bg_ PassesOwn.never rfl ?g5 ?g6 ?g7
   case' g5 => refine' aK_ (K := K) rfl ?g8
   case' g8 => refine' pe_ix ao_ (pv1 0 rfl fh_) ab_ (fun _ _ => rfl)
   case' g6 => refine' bc_ (K := K) (n := 2) rfl rfl ?g11
   case' g11 => refine' ap_ ?g12 ?g13
   case g12 => exact ak_ (i := 2) a2_.nd rfl cN_
   case' g13 => refine' ap_ ?g14 ba_
   case g14 => exact ak_ (i := 3) a2_.nd rfl cO_
   case' g7 => refine' ae_ ?g16
   case' g16 => refine' bg_ PassesOwn.never rfl ?g17 ?g18 ?g19
   case' g17 => refine' na_ (K := K) rfl cD_ T.n_enumerate ?g20
   case' g20 => refine' pa_c (pv1 3 rfl cO_) aa_
   case' g18 => refine' bc_ (K := K) (n := 2) rfl rfl ?g23
   case' g23 => refine' ap_ ?g24 ?g25
   case g24 => exact ak_ (i := 4) a2_.nd rfl cP_
   case' g25 => refine' ap_ ?g26 ba_
   case g26 => exact ak_ (i := 5) a2_.nd rfl cQ_
   case' g19 => refine' ae_ ?g28
   case' g28 => refine' bv_ ?g29
   case' g29 => refine' pe_bm PySem.F.plainAttrs_list PySem.F.slot_list_append PySem.F.type_list_append bi_ ?g30 ?g31
   case' g30 => refine' pe_bm PySem.F.plainAttrs_dict PySem.F.slot_dict_setdefault PySem.F.type_dict_setdefault eB_ (pv1 1 rfl bJ_) ?g33
   case' g33 => refine' pa_c (pv1 5 rfl cQ_) ?g35
   case' g35 => refine' pa_c ?g36 aa_
   case' g36 => refine' cG_ aa_
   case' g31 => refine' pa_c ?g39 aa_
   case' g39 => refine' aH_ ?g41
   case' g41 => refine' pa_c (pv1 2 rfl cN_) ?g43
   case' g43 => refine' pa_c (pv1 4 rfl cP_) aa_
   case' g4 => refine' ae_ ?g46
   case' g46 => refine' aq_ (pv1 1 rfl bJ_)
  case R =>
   walk_at "rd"
   obtain ⟨pn, p0, p1, p2, rs, ws, rfl, hn, h0, h1, r1, h2, r2⟩ := dK_ hv
   have rl : rs.length = N.rows.length := by rw [r1.length, List.length_map]
   intro d nd
   have Sd : Same H (upd H d (HO.dK [])) := Same.new nd
   refine ⟨pn, rfl, _, Sd _ _ hn, _, atI_1, p1, rfl, ⟨_, .inl (.inl (Sd _ _ h1))⟩, ?_⟩
   have D0 : DE dE H (upd H d (HO.dK [])) d [] (endsL (occ (N.rows.take 0))) := ⟨Sd, ac_, rfl, List.nodup_nil, fun z => (by cases z), fun i l kv z => (by cases z), nd, fun l z => (by cases z)⟩
   refine i9_ (xs := rs) (fun i σ H' => ∃ (e2 e3 e4 e5 : Option V) (S : Hp) (ls : List Addr), σ = [some (.ref pn), some (.ref d), e2, e3, e4, e5] ∧ Same H S ∧ DE dE S H' d ls (endsL (occ (N.rows.take i)))) ⟨none, none, none, none, H, [], rfl, Same.refl _, D0⟩ ?_ ?_ ?_
   ·rintro i σ H' hi ⟨e2, e3, e4, e5, S, ls, rfl, sS, de⟩
    exact .inl (.inl (de.sH _ _ (sS _ _ h1)))
   ·rintro i x σ H' hx ⟨e2, e3, e4, e5, S, ls, rfl, sS, de⟩
    obtain ⟨r, q, l, hr1, rfl, hq, hl⟩ := eO_ r1 hx
    have s1 := sS.trans de.sH
    rw [fU_ hr1]
    have occle : ∀ j, ∃ m, (occ (N.rows.take i) ++ (occRow r.1 0 r.2).take j) ++ m = occ N.rows := fun j => by
     refine ⟨(occRow r.1 0 r.2).drop j ++ occ (N.rows.drop (i + 1)), ?_⟩
     rw [List.append_assoc, ← List.append_assoc (List.take j _), List.take_append_drop, ← List.append_assoc, ← fU_ hr1]
     unfold occ
     rw [← List.flatten_append, ← List.map_append, List.take_append_drop]
    walk_at "rd"
    refine ⟨_, SqT.of (s1 _ _ hq), rfl, _, _, rfl, _, _, rfl, rfl, l, rfl, ⟨_, .inl (.inl (s1 _ _ hl))⟩, ?_⟩
    refine nk_ (xs := r.2.map V.str) (fun j σ H' => ∃ (e4 e5 : Option V) (S : Hp) (ls : List Addr), σ = [some (.ref pn), some (.ref d), some (.str r.1), some (.ref l), e4, e5] ∧ Same H S ∧ DE dE S H' d ls (endsL (occ (N.rows.take i) ++ (occRow r.1 0 r.2).take j))) ⟨e4, e5, S, ls, rfl, sS, by rw [List.take_zero, List.append_nil]; exact de⟩ ?_ ?_ ?_
    ·rintro j σ H2 hj ⟨e4, e5, S, ls, rfl, sS, de⟩
     exact .inl (.inl ((sS.trans de.sH) _ _ hl))
    ·rintro j x T0 σ H2 hx ⟨e4, e5, S, ls, rfl, sS, de⟩ nT
     rw [List.getElem?_map] at hx
     obtain ⟨wr, hw, rfl⟩ : ∃ wr, r.2[j]? = some wr ∧ x = .str wr := by
      cases e : r.2[j]? with
      | none => rw [e] at hx; cases hx
      | some wr => rw [e] at hx; cases hx; exact ⟨wr, rfl, rfl⟩
     have tk : (occRow r.1 0 r.2).take (j + 1) = (occRow r.1 0 r.2).take j ++ [(wr, (r.1, j))] := by
      rw [List.take_succ, fg_, hw]
      simp
     obtain ⟨m, hm⟩ := occle j
     have few := j9_ ok _ _ hm
     have short := ha_ ok _ _ hm
     rw [tk, ← List.append_assoc, dS_]
     generalize endsL (occ (N.rows.take i) ++ (occRow r.1 0 r.2).take j) = acc at *
     have de2 := de.mono (Same.new nT (o := HO.tup [V.int j, V.str wr]))
     have hT := ac_ (H := H2) (a := T0) (o := HO.tup [V.int j, V.str wr])
     generalize upd H2 T0 (HO.tup [V.int j, V.str wr]) = H3 at *
     walk_at "rd"
     refine ⟨_, SqT.of hT, rfl, _, _, rfl, _, _, rfl, rfl, .inr (.inr (.inl (.inl ⟨_, de2.dict⟩))), Nat.zero_le _, fun q nq => ?_⟩
     have qd : q ≠ d := (ag_ de2.dict nq).symm
     have ql : q ∉ ls := fun z => by
      obtain ⟨i0, hi0, ei⟩ := List.mem_iff_getElem.mp z
      obtain ⟨vs, z2, _⟩ := de2.lst i0 q (acc[i0]'(by rw [← de2.len]; exact hi0)) (by rw [List.getElem?_eq_getElem hi0, ei]) (List.getElem?_eq_getElem _)
      rw [nq] at z2
      cases z2
     have Sq : S q = none := de2.sH.free nq
     have de3 := de2.mono (Same.new nq (o := HO.lst []))
     have hq4 := ac_ (H := H3) (a := q) (o := HO.lst [])
     generalize upd H3 q (HO.lst []) = H4 at *
     refine ⟨_, .inr wr, rfl, de3.dict, by rw [jx_ de3.len]; omega, fun v2 hv2 => ?_, fun hnone => ?_⟩
     ·have hex : ∃ kv ∈ acc, kv.1 = wr := by
       by_cases hc : ∃ kv ∈ acc, kv.1 = wr
       ·exact hc
       ·rw [fT_ (fun kv hkv z => hc ⟨kv, hkv, z⟩)] at hv2
        cases hv2
      obtain ⟨i0, es, g1, g2, g3⟩ := cI_ (e := (r.1, j)) hex
      obtain ⟨lw, l1, l2⟩ := dV_ de3.len g1 g2
      rw [l2] at hv2
      cases hv2
      obtain ⟨vs, hvs, hrep⟩ := de3.lst i0 lw _ l1 g1
      have vle : vs.length ≤ 30 := by
       rw [hrep.length, List.length_map]
       exact short _ (List.mem_of_getElem? g1)
      refine ⟨.inl ⟨_, .inl (.inl hvs)⟩, by decide, fun t nt => ⟨lw, rfl, vs, (Same.new nt) _ _ hvs, small1000 (by omega), ?_⟩⟩
      have de5 := de3.stay nt (.tup [.str r.1, .int j])
      have de6 := de5.old g1 l1 ((Same.new nt) _ _ hvs) (Reps.mono (a7_ de3.sH nt) _ hrep) (e := (r.1, j)) ⟨t, _, rfl, ac_, _, _, rfl, rfl, _, _, rfl, rfl, rfl⟩
      rw [g3]
      exact ⟨_, sS.trans (a7_ de3.sH nt), ls, de6⟩
     ·have hno : ∀ kv ∈ acc, kv.1 ≠ wr := fun kv hkv z => by
       obtain ⟨i0, es, g1, g2, g3⟩ := cI_ (e := (r.1, j)) ⟨kv, hkv, z⟩
       obtain ⟨lw, l1, l2⟩ := dV_ de3.len g1 g2
       rw [l2] at hnone
       cases hnone
      have hqd : upd H4 d (HO.dK (putK (kvsOf acc ls) (Sum.inr wr) (V.ref q))) q = some (.lst []) := by rw [af_ qd]; exact hq4
      refine ⟨.inl ⟨_, .inl (.inl hqd)⟩, by decide, fun t nt => ?_⟩
      have td : t ≠ d := fun z => by rw [z, ac_] at nt; cases nt
      have nt4 : H4 t = none := by rw [af_ td] at nt; exact nt
      have tq : t ≠ q := (ag_ hq4 nt4).symm
      have de5 := de3.stay nt4 (.tup [.str r.1, .int j])
      have de6 := de5.new (e := (r.1, j)) (q := q) hno (by rw [af_ tq.symm]; exact hq4) qd ql (by rw [af_ tq.symm]; exact Sq) ⟨t, _, rfl, ac_, _, _, rfl, rfl, _, _, rfl, rfl, rfl⟩
      refine ⟨[], by rw [af_ tq.symm]; exact hqd, small1000 (by decide), upd S t (.tup [.str r.1, .int j]), sS.trans (a7_ de3.sH nt4), ls ++ [q], ?_⟩
      rw [gl_ hno, mj_ td.symm]
      exact de6
    ·rintro σ H2 ⟨e4, e5, S, ls, rfl, sS, de⟩
     rw [List.take_of_length_le (l := occRow r.1 0 r.2) (by rw [g9_, List.length_map]; exact Nat.le_refl _)] at de
     exact ⟨_, _, _, _, rfl, S, sS, ls, de⟩
   ·rintro σ H' ⟨e2, e3, e4, e5, S, ls, rfl, sS, de⟩
    rw [List.take_of_length_le (by omega)] at de
    walk_at "rd"
    exact k d S ls H' sS de nd
abbrev s_greatest_divisor : Stmt := stN 11
theorem aD_ : FnScope ["one", "other", "pair", "rest"] ["one", "other"] (defScope s_greatest_divisor) := ⟨rfl, rfl, rfl, by decide +kernel, rfl, by decide +kernel, by decide +kernel⟩
theorem aE_ : LK s_greatest_divisor "one" .local := by decide +kernel
theorem av_ : LK s_greatest_divisor "other" .local := by decide +kernel
theorem aW_ : LK s_greatest_divisor "pair" .local := by decide +kernel
theorem bX_ : LK s_greatest_divisor "rest" .local := by decide +kernel
theorem b0_ : LK s_greatest_divisor "LONG_BITS" .globalImplicit := by decide +kernel
theorem df_ : LK s_greatest_divisor "max" .globalImplicit := by decide +kernel
theorem dg_ : LK s_greatest_divisor "min" .globalImplicit := by decide +kernel
def sp_gcd : Sp := fun vs H Q _ => ∃ a b : Int, vs = [.int a, .int b] ∧ 0 ≤ a ∧ 0 ≤ b ∧ Builtin.Int.intBits a ≤ 8000 ∧ Builtin.Int.intBits b ≤ 8000 ∧ ∀ H', Same H H' → Q (.int (Int.gcd a b : Nat)) H'
theorem em_ (T : Txt K mg) (F : Fn0 K mg "greatest_divisor" s_greatest_divisor) : Cal P w K mg base "greatest_divisor" ["one", "other"] 1 sp_gcd := by
 refine aJ_ F aD_ (fun _ _ _ _ _ _ us hl => match us, hl with | [_, _], _ => rfl) ?len ?body
 case len => rintro vs H Q E ⟨a, b, rfl, _⟩; rfl
 case body =>
  intro f cdv A outer s H vs Q E hr h
  obtain ⟨a, b, rfl, ha, hb, la, lb, k⟩ := h
  refine' ⟨_, ?D, ?R⟩
  case D =>
   refine' ad_ ?g1 ?g2
   case' g1 => refine' ai_ (i := 2) aD_.nd rfl aW_ ?g3
   case' g3 => refine' aH_ ?g4
   case' g4 => refine' pa_c ?g5 ?g6
   case' g5 => refine' al_ (kW_ rfl) df_ T.n_max n1_ ?g7
   case' g7 => refine' pa_c (pv1 0 rfl aE_) ?g9
   case' g9 => refine' pa_c (pv1 1 rfl av_) aa_
   case' g6 => refine' pa_c ?g12 aa_
   case' g12 => refine' al_ (kX_ rfl) dg_ T.n_min n2_ ?g14
   case' g14 => refine' pa_c (pv1 0 rfl aE_) ?g16
   case' g16 => refine' pa_c (pv1 1 rfl av_) aa_
   case' g2 => refine' ad_ ?g19 ?g20
   case' g19 => refine' ew_ PassesOwn.never ?g21 ?g22
   case' g21 => refine' az_ op_gt ?g23 ?g24 (nomark _)
   case' g23 => refine' nW_ PySem.F.plainAttrs_int PySem.F.slot_int_bit_length PySem.F.type_int_bit_length m3_ ?g25
   case' g25 => refine' pe_ix ao_ (pv1 2 rfl aW_) ab_ (fun _ _ => rfl)
   case g24 => exact m4_ T.c_LONG_BITS b0_
   case g22 => exact h0_
   case' g20 => refine' ad_ ?g28 ?g29
   case' g28 => refine' ai_ (i := 0) aD_.nd rfl aE_ ?g30
   case' g30 => refine' pe_ix ao_ (pv1 2 rfl aW_) ab_ (fun _ _ => rfl)
   case' g29 => refine' ad_ ?g33 ?g34
   case' g33 => refine' ai_ (i := 1) aD_.nd rfl av_ ?g35
   case' g35 => refine' pe_ix ao_ (pv1 2 rfl aW_) ab_ (fun _ _ => rfl)
   case' g34 => refine' ad_ ?g38 ?g39
   case' g38 => refine' ew_ PassesOwn.never ?g40 ?g41
   case' g40 => refine' az_ op_ne (pv1 1 rfl av_) ab_ (nomark _)
   case' g41 => refine' ad_ ?g44 ?g45
   case' g44 => refine' ai_ (i := 3) aD_.nd rfl bX_ ?g46
   case' g46 => refine' pe_op aG_ (pv1 0 rfl aE_) (pv1 1 rfl av_)
   case' g45 => refine' ad_ ?g49 ?g50
   case' g49 => refine' ai_ (i := 0) aD_.nd rfl aE_ (pv1 1 rfl av_)
   case' g50 => refine' ae_ ?g52
   case' g52 => refine' ai_ (i := 1) aD_.nd rfl av_ (pv1 3 rfl bX_)
   case' g39 => refine' ae_ ?g54
   case' g54 => refine' aq_ (pv1 0 rfl aE_)
  case R =>
   walk_at "rd"
   refine ⟨(by decide), fun p hp => ?_⟩
   refine f1_ (fun σ H1 => σ = [some (.int a), some (.int b), some (.ref p), none] ∧ H1 = upd H p (.tup [V.int (if b > a then b else a), V.int (if b < a then b else a)])) (fun _ _ => 0) ⟨rfl, rfl⟩ ?_
   rintro σ H1 ⟨rfl, rfl⟩
   walk_at "rd"
   have hm : ¬ (8000 : Int) < (Builtin.Int.intBits (if b < a then b else a) : Nat) := by
    split <;> omega
   rw [if_neg hm]
   refine f1_ (fun σ H1 => ∃ (x y : Int) (z : Option V), σ = [some (.int x), some (.int y), some (.ref p), z] ∧ H1 = upd H p (.tup [V.int (if b > a then b else a), V.int (if b < a then b else a)]) ∧ 0 ≤ x ∧ 0 ≤ y ∧ Int.gcd x y = Int.gcd a b)
    (fun σ _ => match σ with | [_, some (.int y), _, _] => y.toNat | _ => 0) ?_ ?_
   ·refine ⟨_, _, _, rfl, rfl, ?_, ?_, ?_⟩
    ·split <;> omega
    ·split <;> omega
    ·by_cases h : b < a
     ·rw [if_pos h, if_neg (by omega)]
     ·rw [if_neg h]
      by_cases h' : b > a
      ·rw [if_pos h', Int.gcd_comm]
      ·rw [if_neg h', Int.gcd_comm]; congr 1 <;> omega
   ·rintro σ H1 ⟨x, y, z, rfl, rfl, hx, hy, e⟩
    walk_at "rd"
    refine ite2 (fun hne => ?_) (fun he => ?_)
    ·refine ⟨_, N_ok, ?_⟩
     walk_at "rd"
     have h0 : 0 < y := by omega
     have h1 := Int.emod_nonneg x hne
     have h2 := Int.emod_lt_of_pos x h0
     exact ⟨h0, hy, h1, (j5_ hx h0).trans e, by omega⟩
    ·have hy0 : y = 0 := Decidable.not_not.mp he
     have : x = (Int.gcd a b : Nat) := by
      rw [← e, hy0, Int.gcd_zero_right]; omega
     rw [this]
     exact k _ (Same.new hp)
theorem ny_ (t b : Int) : Int.gcd (if t < 0 then -t else t) (if b < 0 then -b else b) = Int.gcd t b := by
 split <;> split <;> simp [Int.gcd_neg, Int.neg_gcd]
theorem ka_ {t : Int} {n : Nat} (h : Builtin.Int.intBits t ≤ n) : Builtin.Int.intBits (if t < 0 then -t else t) ≤ n :=
 PyProof.Rows.bits_of_natAbs_le (b := t) (by split <;> omega) h
abbrev s_fraction : Stmt := stN 12
theorem en_ : FnScope ["top", "bottom", "divisor"] ["top", "bottom"] (defScope s_fraction) := ⟨rfl, rfl, rfl, by decide +kernel, rfl, by decide +kernel, by decide +kernel⟩
theorem eP_ : LK s_fraction "top" .local := by decide +kernel
theorem b4_ : LK s_fraction "bottom" .local := by decide +kernel
theorem bz_ : LK s_fraction "divisor" .local := by decide +kernel
theorem dL_ : LK s_fraction "abs" .globalImplicit := by decide +kernel
theorem b5_ : LK s_fraction "greatest_divisor" .globalImplicit := by decide +kernel
def sp_fraction : Sp := fun vs H Q _ => ∃ t b : Int, vs = [.int t, .int b] ∧ b ≠ 0 ∧ Builtin.Int.intBits t ≤ 8000 ∧ Builtin.Int.intBits b ≤ 8000 ∧ ∀ p H', Same H H' → H p = none → H' p = some (.tup [.int (nf t b).1, .int (nf t b).2]) → Q (.ref p) H'
theorem jy_ (T : Txt K mg) (F : Fn0 K mg "fraction" s_fraction) (C_greatest_divisor : Cal P w K mg base "greatest_divisor" ["one", "other"] 1 sp_gcd) : Cal P w K mg base "fraction" ["top", "bottom"] 2 sp_fraction := by
 refine aJ_ F en_ (fun _ _ _ _ _ _ us hl => match us, hl with | [_, _], _ => rfl) ?len ?body
 case len => rintro vs H Q E ⟨a, b, rfl, _⟩; rfl
 case body =>
  intro f cdv A outer s H vs Q E hr h
  obtain ⟨t, b, rfl, hb, lt, lb, k⟩ := h
  refine' ⟨_, ?D, ?R⟩
  case D =>
   refine' ad_ ?g1 ?g2
   case' g1 => refine' ps_if ?g3 ?g4 aL_
   case' g3 => refine' az_ op_eq (pv1 1 rfl b4_) ab_ (nomark _)
   case' g4 => refine' ae_ ?g8
   case g8 => exact jH_
   case' g2 => refine' ad_ ?g9 ?g10
   case' g9 => refine' ai_ (i := 2) en_.nd rfl bz_ ?g11
   case' g11 => refine' aj_ C_greatest_divisor (hr.mono (by decide)) b5_ ?g12
   case' g12 => refine' pa_c ?g13 ?g14
   case' g13 => refine' al_ hm_ dL_ T.n_abs k4_ ?g15
   case' g15 => refine' pa_c (pv1 0 rfl eP_) aa_
   case' g14 => refine' pa_c ?g18 aa_
   case' g18 => refine' al_ hm_ dL_ T.n_abs k4_ ?g20
   case' g20 => refine' pa_c (pv1 1 rfl b4_) aa_
   case' g10 => refine' ad_ ?g23 ?g24
   case' g23 => refine' ps_if ?g25 ?g26 aL_
   case' g25 => refine' az_ op_lt (pv1 1 rfl b4_) ab_ (nomark _)
   case' g26 => refine' ae_ ?g30
   case' g30 => refine' ai_ (i := 2) en_.nd rfl bz_ ?g31
   case' g31 => refine' pe_un nT_ (pv1 2 rfl bz_)
   case' g24 => refine' ae_ ?g33
   case' g33 => refine' aq_ ?g34
   case' g34 => refine' aH_ ?g35
   case' g35 => refine' pa_c ?g36 ?g37
   case' g36 => refine' pe_op jN_ (pv1 0 rfl eP_) (pv1 2 rfl bz_)
   case' g37 => refine' pa_c ?g40 aa_
   case' g40 => refine' pe_op jN_ (pv1 1 rfl b4_) (pv1 2 rfl bz_)
  case R =>
   walk_at "rd"
   rw [if_neg hb]
   refine ⟨_, _, rfl, ?_, ?_, ka_ lt, ka_ lb, fun H1 s1 => ?_⟩
   ·split <;> omega
   ·split <;> omega
   ·rw [ny_]
    have g := gpos (t := t) hb
    have d1 := Int.gcd_dvd_left (a := t) (b := b)
    have d2 := Int.gcd_dvd_right (a := t) (b := b)
    have gl : (Int.gcd t b : Int).natAbs ≤ b.natAbs := by
     have := Int.natAbs_dvd_natAbs.mpr d2
     exact Nat.le_of_dvd (by omega) this
    have lg := mN_ (g := (Int.gcd t b : Int)) (by omega) gl lb
    walk_at "rd"
    refine ite2 (fun hn => ?_) (fun hn => ?_)
    ·have e : nf t b = (t.fdiv (-(Int.gcd t b : Int)), b.fdiv (-(Int.gcd t b : Int))) := by
      unfold nf
      rw [if_pos hn, Int.fdiv_eq_ediv_of_dvd (Int.neg_dvd.mpr d1), Int.fdiv_eq_ediv_of_dvd (Int.neg_dvd.mpr d2)]
     rw [e] at k
     have lg' : (-(Int.gcd t b : Int)).natAbs.log2 < 9000 := by rw [Int.natAbs_neg]; exact lg
     exact ⟨by omega, lg', by omega, lg', by decide, fun p hp => k p _ (s1.trans (Same.new hp)) (s1.free hp) ac_⟩
    ·have e : nf t b = (t.fdiv (Int.gcd t b : Int), b.fdiv (Int.gcd t b : Int)) := by
      unfold nf
      rw [if_neg hn, Int.fdiv_eq_ediv_of_dvd d1, Int.fdiv_eq_ediv_of_dvd d2]
     rw [e] at k
     exact ⟨by omega, lg, by omega, lg, by decide, fun p hp => k p _ (s1.trans (Same.new hp)) (s1.free hp) ac_⟩
def FQ (K : PySem.W.Frag) (H : Hp) (v : V) (p : Int × Int) : Prop := ∃ a, v = .ref a ∧ SqT K H a [.int p.1, .int p.2]
theorem Same.seqT {K : PySem.W.Frag} {H H' : Hp} {a : Addr} {xs : List V} (e : Same H H') (h : SqT K H a xs) : SqT K H' a xs := by
 rcases h with (h | ⟨o, h⟩) | h
 ·exact .inl (.inl (e _ _ h))
 ·exact .inl (.inr ⟨o, e _ _ h⟩)
 ·exact .inr h
theorem FQ.mono {H H' : Hp} {v : V} {p : Int × Int} (e : Same H H') (h : FQ K H v p) : FQ K H' v p := let ⟨a, h1, h2⟩ := h; ⟨a, h1, Same.seqT e h2⟩
theorem FQ.of {H : Hp} {v : V} {p : Int × Int} (h : Rep H v (dF p)) : FQ K H v p := let ⟨a, h1, h2⟩ := bC_ h; ⟨a, h1, SqT.of h2⟩
structure Sm (p : Int × Int) : Prop where
 low : Low p
 top : Builtin.Int.intBits p.1 ≤ 1500
 bot : Builtin.Int.intBits p.2 ≤ 1500
theorem bd_ {x y : Int} {n m : Nat} (hx : Builtin.Int.intBits x ≤ n) (hy : Builtin.Int.intBits y ≤ m) (h : n + m ≤ 9000) : Builtin.Int.intBits (x * y) ≤ n + m ∧ Builtin.Int.intBits x + Builtin.Int.intBits y ≤ 134217728 := ⟨PyProof.Rows.bits_mul hx hy, by omega⟩
theorem eQ_ {x y : Int} {n : Nat} (hx : Builtin.Int.intBits x ≤ n) (hy : Builtin.Int.intBits y ≤ n) : Builtin.Int.intBits (x - y) ≤ n + 1 := by
 have h : Builtin.Int.intBits (-y) ≤ n := PyProof.Rows.bits_of_natAbs_le (b := y) (by omega) hy
 have := PyProof.Rows.bits_add hx h
 rw [Int.sub_eq_add_neg]
 omega
def sp_two (K : PySem.W.Frag) (t b : Int × Int → Int × Int → Int) : Sp := fun vs H Q _ => ∃ v u p q, vs = [v, u] ∧ FQ K H v p ∧ FQ K H u q ∧ Sm p ∧ Sm q ∧ b p q ≠ 0 ∧ ∀ z H', Same H H' → H z = none → H' z = some (.tup [.int (nf (t p q) (b p q)).1, .int (nf (t p q) (b p q)).2]) → Q (.ref z) H'
abbrev s_plus : Stmt := stN 13
theorem nz_ : FnScope ["one", "other"] ["one", "other"] (defScope s_plus) := ⟨rfl, rfl, rfl, by decide +kernel, rfl, by decide +kernel, by decide +kernel⟩
theorem gy_ : LK s_plus "one" .local := by decide +kernel
theorem gz_ : LK s_plus "other" .local := by decide +kernel
theorem fI_ : LK s_plus "fraction" .globalImplicit := by decide +kernel
theorem nA_ (T : Txt K mg) (F : Fn0 K mg "plus" s_plus) (C_fraction : Cal P w K mg base "fraction" ["top", "bottom"] 2 sp_fraction) : Cal P w K mg base "plus" ["one", "other"] 3 (sp_two K (fun p q => p.1 * q.2 + q.1 * p.2) (fun p q => p.2 * q.2)) := by
 refine aJ_ F nz_ (fun _ _ _ _ _ _ us hl => match us, hl with | [_, _], _ => rfl) ?len ?body
 case len => rintro vs H Q E ⟨a, b, c, d, rfl, _⟩; rfl
 case body =>
  intro f cdv A outer s H vs Q E hr h
  obtain ⟨v, u, p, q, rfl, ⟨x, rfl, hx⟩, ⟨y, rfl, hy⟩, sp, sq, nz, k⟩ := h
  have p1 := sp.top
  have p2 := sp.bot
  have q1 := sq.top
  have q2 := sq.bot
  have a1 := bd_ p1 q2 (by decide)
  have a2 := bd_ q1 p2 (by decide)
  have a3 := bd_ p2 q2 (by decide)
  have a4 := bd_ p1 q1 (by decide)
  have a5 := bd_ p2 q1 (by decide)
  have b1 := PyProof.Rows.bits_add a1.1 a2.1
  have b2 := eQ_ a1.1 a2.1
  refine' ⟨_, ?D, ?R⟩
  case D =>
   refine' ae_ ?g1
   case' g1 => refine' aq_ ?g2
   case' g2 => refine' aj_ C_fraction (hr.mono (by decide)) fI_ ?g3
   case' g3 => refine' pa_c ?g4 ?g5
   case' g4 => refine' pe_op aN_ ?g6 ?g7
   case' g6 => refine' pe_op a8_ ?g8 ?g9
   case' g8 => refine' pe_ix (aM_ (K := K) rfl) (pv1 0 rfl gy_) ab_ (fun _ _ => rfl)
   case' g9 => refine' pe_ix (aM_ (K := K) rfl) (pv1 1 rfl gz_) ab_ (fun _ _ => rfl)
   case' g7 => refine' pe_op a8_ ?g14 ?g15
   case' g14 => refine' pe_ix (aM_ (K := K) rfl) (pv1 1 rfl gz_) ab_ (fun _ _ => rfl)
   case' g15 => refine' pe_ix (aM_ (K := K) rfl) (pv1 0 rfl gy_) ab_ (fun _ _ => rfl)
   case' g5 => refine' pa_c ?g20 aa_
   case' g20 => refine' pe_op a8_ ?g22 ?g23
   case' g22 => refine' pe_ix (aM_ (K := K) rfl) (pv1 0 rfl gy_) ab_ (fun _ _ => rfl)
   case' g23 => refine' pe_ix (aM_ (K := K) rfl) (pv1 1 rfl gz_) ab_ (fun _ _ => rfl)
  case R =>
   walk_at "rd"
   exact ⟨_, hx, _, atI_0, _, hy, _, atI_1, _, rfl, _, rfl, by omega, _, hy, _, atI_0, _, hx, _, atI_1, _, rfl, _, rfl, by omega, _, hx, _, atI_1, _, hy, _, atI_1, _, rfl, _, rfl, by omega, _, _, rfl, nz, by omega, by omega, fun z H' s' n' h' => k z H' s' n' h'⟩
abbrev s_minus : Stmt := stN 14
theorem mk_ : FnScope ["one", "other"] ["one", "other"] (defScope s_minus) := ⟨rfl, rfl, rfl, by decide +kernel, rfl, by decide +kernel, by decide +kernel⟩
theorem fi_ : LK s_minus "one" .local := by decide +kernel
theorem fj_ : LK s_minus "other" .local := by decide +kernel
theorem fk_ : LK s_minus "fraction" .globalImplicit := by decide +kernel
theorem ml_ (T : Txt K mg) (F : Fn0 K mg "minus" s_minus) (C_fraction : Cal P w K mg base "fraction" ["top", "bottom"] 2 sp_fraction) : Cal P w K mg base "minus" ["one", "other"] 3 (sp_two K (fun p q => p.1 * q.2 - q.1 * p.2) (fun p q => p.2 * q.2)) := by
 refine aJ_ F mk_ (fun _ _ _ _ _ _ us hl => match us, hl with | [_, _], _ => rfl) ?len ?body
 case len => rintro vs H Q E ⟨a, b, c, d, rfl, _⟩; rfl
 case body =>
  intro f cdv A outer s H vs Q E hr h
  obtain ⟨v, u, p, q, rfl, ⟨x, rfl, hx⟩, ⟨y, rfl, hy⟩, sp, sq, nz, k⟩ := h
  have p1 := sp.top
  have p2 := sp.bot
  have q1 := sq.top
  have q2 := sq.bot
  have a1 := bd_ p1 q2 (by decide)
  have a2 := bd_ q1 p2 (by decide)
  have a3 := bd_ p2 q2 (by decide)
  have a4 := bd_ p1 q1 (by decide)
  have a5 := bd_ p2 q1 (by decide)
  have b1 := PyProof.Rows.bits_add a1.1 a2.1
  have b2 := eQ_ a1.1 a2.1
  refine' ⟨_, ?D, ?R⟩
  case D =>
   refine' ae_ ?g1
   case' g1 => refine' aq_ ?g2
   case' g2 => refine' aj_ C_fraction (hr.mono (by decide)) fk_ ?g3
   case' g3 => refine' pa_c ?g4 ?g5
   case' g4 => refine' pe_op kS_ ?g6 ?g7
   case' g6 => refine' pe_op a8_ ?g8 ?g9
   case' g8 => refine' pe_ix (aM_ (K := K) rfl) (pv1 0 rfl fi_) ab_ (fun _ _ => rfl)
   case' g9 => refine' pe_ix (aM_ (K := K) rfl) (pv1 1 rfl fj_) ab_ (fun _ _ => rfl)
   case' g7 => refine' pe_op a8_ ?g14 ?g15
   case' g14 => refine' pe_ix (aM_ (K := K) rfl) (pv1 1 rfl fj_) ab_ (fun _ _ => rfl)
   case' g15 => refine' pe_ix (aM_ (K := K) rfl) (pv1 0 rfl fi_) ab_ (fun _ _ => rfl)
   case' g5 => refine' pa_c ?g20 aa_
   case' g20 => refine' pe_op a8_ ?g22 ?g23
   case' g22 => refine' pe_ix (aM_ (K := K) rfl) (pv1 0 rfl fi_) ab_ (fun _ _ => rfl)
   case' g23 => refine' pe_ix (aM_ (K := K) rfl) (pv1 1 rfl fj_) ab_ (fun _ _ => rfl)
  case R =>
   walk_at "rd"
   exact ⟨_, hx, _, atI_0, _, hy, _, atI_1, _, rfl, _, rfl, by omega, _, hy, _, atI_0, _, hx, _, atI_1, _, rfl, _, rfl, by omega, _, hx, _, atI_1, _, hy, _, atI_1, _, rfl, _, rfl, by omega, _, _, rfl, nz, by omega, by omega, fun z H' s' n' h' => k z H' s' n' h'⟩
abbrev s_times : Stmt := stN 15
theorem mm_ : FnScope ["one", "other"] ["one", "other"] (defScope s_times) := ⟨rfl, rfl, rfl, by decide +kernel, rfl, by decide +kernel, by decide +kernel⟩
theorem hb_ : LK s_times "one" .local := by decide +kernel
theorem hc_ : LK s_times "other" .local := by decide +kernel
theorem fl_ : LK s_times "fraction" .globalImplicit := by decide +kernel
theorem mn_ (T : Txt K mg) (F : Fn0 K mg "times" s_times) (C_fraction : Cal P w K mg base "fraction" ["top", "bottom"] 2 sp_fraction) : Cal P w K mg base "times" ["one", "other"] 3 (sp_two K (fun p q => p.1 * q.1) (fun p q => p.2 * q.2)) := by
 refine aJ_ F mm_ (fun _ _ _ _ _ _ us hl => match us, hl with | [_, _], _ => rfl) ?len ?body
 case len => rintro vs H Q E ⟨a, b, c, d, rfl, _⟩; rfl
 case body =>
  intro f cdv A outer s H vs Q E hr h
  obtain ⟨v, u, p, q, rfl, ⟨x, rfl, hx⟩, ⟨y, rfl, hy⟩, sp, sq, nz, k⟩ := h
  have p1 := sp.top
  have p2 := sp.bot
  have q1 := sq.top
  have q2 := sq.bot
  have a1 := bd_ p1 q2 (by decide)
  have a2 := bd_ q1 p2 (by decide)
  have a3 := bd_ p2 q2 (by decide)
  have a4 := bd_ p1 q1 (by decide)
  have a5 := bd_ p2 q1 (by decide)
  have b1 := PyProof.Rows.bits_add a1.1 a2.1
  have b2 := eQ_ a1.1 a2.1
  refine' ⟨_, ?D, ?R⟩
  case D =>
   refine' ae_ ?g1
   case' g1 => refine' aq_ ?g2
   case' g2 => refine' aj_ C_fraction (hr.mono (by decide)) fl_ ?g3
   case' g3 => refine' pa_c ?g4 ?g5
   case' g4 => refine' pe_op a8_ ?g6 ?g7
   case' g6 => refine' pe_ix (aM_ (K := K) rfl) (pv1 0 rfl hb_) ab_ (fun _ _ => rfl)
   case' g7 => refine' pe_ix (aM_ (K := K) rfl) (pv1 1 rfl hc_) ab_ (fun _ _ => rfl)
   case' g5 => refine' pa_c ?g12 aa_
   case' g12 => refine' pe_op a8_ ?g14 ?g15
   case' g14 => refine' pe_ix (aM_ (K := K) rfl) (pv1 0 rfl hb_) ab_ (fun _ _ => rfl)
   case' g15 => refine' pe_ix (aM_ (K := K) rfl) (pv1 1 rfl hc_) ab_ (fun _ _ => rfl)
  case R =>
   walk_at "rd"
   exact ⟨_, hx, _, atI_0, _, hy, _, atI_0, _, rfl, _, rfl, by omega, _, hx, _, atI_1, _, hy, _, atI_1, _, rfl, _, rfl, by omega, _, _, rfl, nz, by omega, by omega, fun z H' s' n' h' => k z H' s' n' h'⟩
abbrev s_over : Stmt := stN 16
theorem nB_ : FnScope ["one", "other"] ["one", "other"] (defScope s_over) := ⟨rfl, rfl, rfl, by decide +kernel, rfl, by decide +kernel, by decide +kernel⟩
theorem iK_ : LK s_over "one" .local := by decide +kernel
theorem iL_ : LK s_over "other" .local := by decide +kernel
theorem fJ_ : LK s_over "fraction" .globalImplicit := by decide +kernel
theorem nC_ (T : Txt K mg) (F : Fn0 K mg "over" s_over) (C_fraction : Cal P w K mg base "fraction" ["top", "bottom"] 2 sp_fraction) : Cal P w K mg base "over" ["one", "other"] 3 (sp_two K (fun p q => p.1 * q.2) (fun p q => p.2 * q.1)) := by
 refine aJ_ F nB_ (fun _ _ _ _ _ _ us hl => match us, hl with | [_, _], _ => rfl) ?len ?body
 case len => rintro vs H Q E ⟨a, b, c, d, rfl, _⟩; rfl
 case body =>
  intro f cdv A outer s H vs Q E hr h
  obtain ⟨v, u, p, q, rfl, ⟨x, rfl, hx⟩, ⟨y, rfl, hy⟩, sp, sq, nz, k⟩ := h
  have p1 := sp.top
  have p2 := sp.bot
  have q1 := sq.top
  have q2 := sq.bot
  have a1 := bd_ p1 q2 (by decide)
  have a2 := bd_ q1 p2 (by decide)
  have a3 := bd_ p2 q2 (by decide)
  have a4 := bd_ p1 q1 (by decide)
  have a5 := bd_ p2 q1 (by decide)
  have b1 := PyProof.Rows.bits_add a1.1 a2.1
  have b2 := eQ_ a1.1 a2.1
  refine' ⟨_, ?D, ?R⟩
  case D =>
   refine' ae_ ?g1
   case' g1 => refine' aq_ ?g2
   case' g2 => refine' aj_ C_fraction (hr.mono (by decide)) fJ_ ?g3
   case' g3 => refine' pa_c ?g4 ?g5
   case' g4 => refine' pe_op a8_ ?g6 ?g7
   case' g6 => refine' pe_ix (aM_ (K := K) rfl) (pv1 0 rfl iK_) ab_ (fun _ _ => rfl)
   case' g7 => refine' pe_ix (aM_ (K := K) rfl) (pv1 1 rfl iL_) ab_ (fun _ _ => rfl)
   case' g5 => refine' pa_c ?g12 aa_
   case' g12 => refine' pe_op a8_ ?g14 ?g15
   case' g14 => refine' pe_ix (aM_ (K := K) rfl) (pv1 0 rfl iK_) ab_ (fun _ _ => rfl)
   case' g15 => refine' pe_ix (aM_ (K := K) rfl) (pv1 1 rfl iL_) ab_ (fun _ _ => rfl)
  case R =>
   walk_at "rd"
   exact ⟨_, hx, _, atI_0, _, hy, _, atI_1, _, rfl, _, rfl, by omega, _, hx, _, atI_1, _, hy, _, atI_0, _, rfl, _, rfl, by omega, _, _, rfl, nz, by omega, by omega, fun z H' s' n' h' => k z H' s' n' h'⟩
def dRow (r : List (Int × Int)) : Dt := .lst (r.map dF)
def dG (g : List (List (Int × Int))) : Dt := .lst (g.map dRow)
theorem eR_ {H : Hp} {xs : List V} {g : List (List (Int × Int))} {i : Nat} {x : V} (h : Reps H xs (g.map dRow)) (e : xs[i]? = some x) : ∃ q ys r, g[i]? = some r ∧ x = .ref q ∧ H q = some (.lst ys) ∧ Reps H ys (r.map dF) := by
 obtain ⟨d, hd, hr⟩ := h.of_get e
 rw [List.getElem?_map] at hd
 cases z : g[i]? with
 | none => rw [z] at hd; cases hd
 | some r =>
  rw [z] at hd
  cases hd
  obtain ⟨q, ys, e1, e2, e3⟩ := hr
  exact ⟨q, ys, r, rfl, e1, e2, e3⟩
theorem lB_ {H : Hp} {xs : List V} {r : List (Int × Int)} {i : Nat} {x : V} (h : Reps H xs (r.map dF)) (e : xs[i]? = some x) : ∃ q p, r[i]? = some p ∧ x = .ref q ∧ H q = some (.tup [.int p.1, .int p.2]) := by
 obtain ⟨d, hd, hr⟩ := h.of_get e
 rw [List.getElem?_map] at hd
 cases z : r[i]? with
 | none => rw [z] at hd; cases hd
 | some p =>
  rw [z] at hd
  cases hd
  obtain ⟨q, e1, e2⟩ := bC_ hr
  exact ⟨q, p, rfl, e1, e2⟩
def VG (K : PySem.W.Frag) (H J : Hp) : Prop := (∀ q xs, J q = some (.tup xs) → SqT K H q xs) ∧ ∀ q xs, J q = some (.lst xs) → H q = some (.lst xs)
theorem VG.refl {H : Hp} : VG K H H := ⟨fun _ _ h => SqT.of h, fun _ _ h => h⟩
theorem VG.vw {H J : Hp} (h : VG K H J) : Vw K H J := ⟨h.1, fun _ _ e => .inl (.inl (h.2 _ _ e))⟩
theorem VG.mono {H H' J : Hp} (h : VG K H J) (s : Same H H') : VG K H' J := ⟨fun q xs e => Same.seqT s (h.1 q xs e), fun q xs e => s _ _ (h.2 q xs e)⟩
abbrev s_Lwhole : Stmt := stN 45
theorem lC_ : FnScope ["_law_found"] ["_law_found"] (defScope s_Lwhole) := ⟨rfl, rfl, rfl, by decide +kernel, rfl, by decide +kernel, by decide +kernel⟩
theorem gA_ : LK s_Lwhole "_law_found" .local := by decide +kernel
theorem gS_ : LK s_Lwhole "bool" .globalImplicit := by decide +kernel
theorem hL_ : LK s_Lwhole "int" .globalImplicit := by decide +kernel
theorem b2_ : LK s_Lwhole "isinstance" .globalImplicit := by decide +kernel
def sp_whole : Sp := fun vs H Q _ => ∃ x t, vs = [x] ∧ kindV H x = some t ∧ ∀ H', Same H H' → Q (.bl (t == "int")) H'
theorem kF_ {H : Hp} {x : V} {t : String} (h : kindV H x = some t) : t = "NoneType" ∨ t = "bool" ∨ t = "int" ∨ t = "str" ∨ t = "list" ∨ t = "tuple" := by
 cases x with
 | non => exact .inl (Option.some.inj h).symm
 | bl _ => exact .inr (.inl (Option.some.inj h).symm)
 | int _ => exact .inr (.inr (.inl (Option.some.inj h).symm))
 | str _ => exact .inr (.inr (.inr (.inl (Option.some.inj h).symm)))
 | ref p =>
  cases e : H p with
  | none => simp [kindV, e] at h
  | some o => cases o <;> simp [kindV, e] at h <;> simp [← h]
 | _ => cases h
theorem lD_ (T : Txt K mg) (F : Fn0 K mg "_law_whole" s_Lwhole) : Cal P w K mg base "_law_whole" ["_law_found"] 1 sp_whole := by
 refine aJ_ F lC_ (fun _ _ _ _ _ _ us hl => match us, hl with | [_], _ => rfl) ?len ?body
 case len => rintro vs H Q E ⟨a, b, rfl, _⟩; rfl
 case body =>
  intro f cdv A outer s H vs Q E hr h
  obtain ⟨x, t, rfl, ht, k⟩ := h
  refine' ⟨_, ?D, ?R⟩
  case D =>
   refine' ae_ ?g1
   case' g1 => refine' aq_ ?g2
   case' g2 => refine' jG_ ?g3 ?g4
   case' g3 => refine' al_ fN_ b2_ T.n_isinstance aV_ ?g5
   case' g5 => refine' pa_c (pv1 0 rfl gA_) ?g7
   case' g7 => refine' pa_c ?g8 aa_
   case g8 => exact gZ_ hL_ T.n_int k5_
   case' g4 => refine' kM_ ?g10
   case' g10 => refine' mw_ ?g11
   case' g11 => refine' al_ fN_ b2_ T.n_isinstance aV_ ?g12
   case' g12 => refine' pa_c (pv1 0 rfl gA_) ?g14
   case' g14 => refine' pa_c ?g15 aa_
   case g15 => exact gZ_ gS_ T.n_bool m6_
  case R =>
   walk_at "rd"
   simp only [ht, Option.some.injEq, exists_eq_left']
   have k' := k H (Same.refl H)
   rcases kF_ ht with rfl | rfl | rfl | rfl | rfl | rfl <;> exact k'
abbrev s_Lis_fraction : Stmt := stN 46
theorem gB_ : FnScope ["_law_found"] ["_law_found"] (defScope s_Lis_fraction) := ⟨rfl, rfl, rfl, by decide +kernel, rfl, by decide +kernel, by decide +kernel⟩
theorem aF_ : LK s_Lis_fraction "_law_found" .local := by decide +kernel
theorem d0_ : LK s_Lis_fraction "_law_low" .globalImplicit := by decide +kernel
theorem bD_ : LK s_Lis_fraction "_law_whole" .globalImplicit := by decide +kernel
theorem cq_ : LK s_Lis_fraction "isinstance" .globalImplicit := by decide +kernel
theorem eo_ : LK s_Lis_fraction "len" .globalImplicit := by decide +kernel
theorem dM_ : LK s_Lis_fraction "tuple" .globalImplicit := by decide +kernel
def sp_isf (K : PySem.W.Frag) : Sp := fun vs H Q _ => ∃ v p, vs = [v] ∧ FQ K H v p ∧ Low p ∧ Builtin.Int.intBits p.2 ≤ 8000 ∧ ∀ H', Same H H' → Q (.bl true) H'
theorem gC_ (T : Txt K mg) (F : Fn0 K mg "_law_is_fraction" s_Lis_fraction) (C_Lwhole : Cal P w K mg base "_law_whole" ["_law_found"] 1 sp_whole) (C_Llow : Cal P w K mg base "_law_low" ["_law_top", "_law_bottom"] 1 sp_low) : Cal P w K mg base "_law_is_fraction" ["_law_found"] 2 (sp_isf K) := by
 refine aJ_ F gB_ (fun _ _ _ _ _ _ us hl => match us, hl with | [_], _ => rfl) ?len ?body
 case len => rintro vs H Q E ⟨a, b, rfl, _⟩; rfl
 case body =>
  intro f cdv A outer s H vs Q E hr h
  obtain ⟨v, p, rfl, ⟨q, rfl, hq⟩, lo, bb, k⟩ := h
  refine' ⟨_, ?D, ?R⟩
  case D =>
   refine' ad_ ?g1 ?g2
   case' g1 => refine' ps_if ?g3 ?g4 aL_
   case' g3 => refine' PW.pt ?g6
   case' g6 => refine' pw_or ?g7 ?g8
   case' g7 => refine' d5_ ?g9
   case' g9 => refine' d4_ ?g10
   case' g10 => refine' al_ (me_ rfl) cq_ T.n_isinstance aV_ ?g11
   case' g11 => refine' pa_c (pv1 0 rfl aF_) ?g13
   case' g13 => refine' pa_c ?g14 aa_
   case g14 => exact gZ_ dM_ T.n_tuple lZ_
   case' g8 => refine' pw_or ?g16 ?g17
   case' g16 => refine' az_ op_ne ?g18 ab_ (nomark _)
   case' g18 => refine' al_ dx_ eo_ T.n_len aQ_ ?g20
   case' g20 => refine' pa_c (pv1 0 rfl aF_) aa_
   case' g17 => refine' pw_or ?g23 ?g24
   case' g23 => refine' d5_ ?g25
   case' g25 => refine' d4_ ?g26
   case' g26 => refine' aj_ C_Lwhole (hr.mono (by decide)) bD_ ?g27
   case' g27 => refine' pa_c ?g28 aa_
   case' g28 => refine' pe_ix (aM_ (K := K) rfl) (pv1 0 rfl aF_) ab_ (fun _ _ => rfl)
   case' g24 => refine' hZ_ ?g32
   case' g32 => refine' d5_ ?g33
   case' g33 => refine' d4_ ?g34
   case' g34 => refine' aj_ C_Lwhole (hr.mono (by decide)) bD_ ?g35
   case' g35 => refine' pa_c ?g36 aa_
   case' g36 => refine' pe_ix (aM_ (K := K) rfl) (pv1 0 rfl aF_) ab_ (fun _ _ => rfl)
   case' g4 => refine' ae_ ?g40
   case' g40 => refine' aq_ pe_bl
   case' g2 => refine' ae_ ?g42
   case' g42 => refine' aq_ ?g43
   case' g43 => refine' jG_ ?g44 ?g45
   case' g44 => refine' e4_ op_gt ?g46 ab_ (nomark _)
   case' g46 => refine' pe_ix (aM_ (K := K) rfl) (pv1 0 rfl aF_) ab_ (fun _ _ => rfl)
   case' g45 => refine' kM_ ?g50
   case' g50 => refine' e4_ (ig_ rfl (hr.units)) (pv1 0 rfl aF_) ?g52 (nomark _)
   case' g52 => refine' aj_ C_Llow (hr.mono (by decide)) d0_ ?g53
   case' g53 => refine' pa_c ?g54 ?g55
   case' g54 => refine' pe_ix (aM_ (K := K) rfl) (pv1 0 rfl aF_) ab_ (fun _ _ => rfl)
   case' g55 => refine' pa_c ?g58 aa_
   case' g58 => refine' pe_ix (aM_ (K := K) rfl) (pv1 0 rfl aF_) ab_ (fun _ _ => rfl)
  case R =>
   walk_at "rd"
   refine ⟨_, hq, ?_⟩
   refine ⟨_, .inr hq, ?_⟩
   rw [if_neg (by simp)]
   refine ⟨_, hq, _, atI_0, _, "int", rfl, rfl, fun H1 s1 => ⟨_, rfl, ?_⟩⟩
   rw [if_neg (by decide)]
   have hq1 := Same.seqT s1 hq
   refine ⟨_, hq1, _, atI_1, _, "int", rfl, rfl, fun H2 s2 => ⟨_, rfl, ?_⟩⟩
   rw [if_neg (by decide)]
   have hq2 := Same.seqT s2 hq1
   have p0 := lo.pos
   refine ⟨_, hq2, _, atI_1, _, rfl, ?_⟩
   rw [if_pos p0]
   refine ⟨_, hq2, _, atI_0, _, hq2, _, atI_1, _, _, rfl, p0, bb, fun z H3 s3 rep => ?_⟩
   rw [io_ lo] at rep
   obtain ⟨_, e, hz⟩ := bC_ rep
   cases e
   have hz3 := (aP_ hz).2
   have hq3 := Same.seqT s3 hq2
   have eJ := ac_ (H := H3) (a := q) (o := HO.tup [.int p.1, .int p.2])
   refine ⟨upd H3 q (HO.tup [.int p.1, .int p.2]), ⟨fun a xs e => ?_, fun a xs e => ?_⟩, z, rfl, dF p, ⟨q, _, rfl, eJ, _, _, rfl, rfl, _, _, rfl, rfl, rfl⟩, dF p, ⟨z, _, rfl, ?_, _, _, rfl, rfl, _, _, rfl, rfl, rfl⟩, true, by simp [deq, deqs, dF], by simp [dep, deps, dF], k _ ((s1.trans s2).trans s3)⟩
   ·by_cases h : a = q
    ·subst h
     rw [eJ] at e
     cases e
     exact hq3
    ·rw [af_ h] at e
     exact SqT.of e
   ·by_cases h : a = q
    ·subst h
     rw [eJ] at e
     cases e
    ·rw [af_ h] at e
     exact .inl (.inl e)
   ·by_cases h : z = q
    ·rw [h]; exact eJ
    ·rw [af_ h]; exact hz3
def sp_lw (t : Int × Int → Int × Int → Int) : Sp := fun vs H Q _ => ∃ v u p q, vs = [v, u] ∧ Rep H v (dF p) ∧ Rep H u (dF q) ∧ 0 < p.2 ∧ 0 < q.2 ∧ Builtin.Int.intBits p.1 ≤ 3900 ∧ Builtin.Int.intBits p.2 ≤ 3900 ∧ Builtin.Int.intBits q.1 ≤ 3900 ∧ Builtin.Int.intBits q.2 ≤ 3900 ∧
 ∀ z H', Same H H' → Rep (newH H H') (.ref z) (dF (nf (t p q) (p.2 * q.2))) → Q (.ref z) H'
abbrev s_Ladd : Stmt := stN 42
theorem nD_ : FnScope ["_law_one", "_law_other"] ["_law_one", "_law_other"] (defScope s_Ladd) := ⟨rfl, rfl, rfl, by decide +kernel, rfl, by decide +kernel, by decide +kernel⟩
theorem gD_ : LK s_Ladd "_law_one" .local := by decide +kernel
theorem gE_ : LK s_Ladd "_law_other" .local := by decide +kernel
theorem iM_ : LK s_Ladd "_law_low" .globalImplicit := by decide +kernel
theorem nE_ (T : Txt K mg) (F : Fn0 K mg "_law_add" s_Ladd) (C_Llow : Cal P w K mg base "_law_low" ["_law_top", "_law_bottom"] 1 sp_low) : Cal P w K mg base "_law_add" ["_law_one", "_law_other"] 2 (sp_lw (fun p q => p.1 * q.2 + q.1 * p.2)) := by
 refine aJ_ F nD_ (fun _ _ _ _ _ _ us hl => match us, hl with | [_, _], _ => rfl) ?len ?body
 case len => rintro vs H Q E ⟨a, b, c, d, rfl, _⟩; rfl
 case body =>
  intro f cdv A outer s H vs Q E hr h
  obtain ⟨v, u, p, q, rfl, hv, hu, p0, q0, p1, p2, q1, q2, k⟩ := h
  obtain ⟨x, rfl, hx⟩ := bC_ hv
  obtain ⟨y, rfl, hy⟩ := bC_ hu
  have a3 := bd_ p2 q2 (by decide)
  refine' ⟨_, ?D, ?R⟩
  case D =>
   refine' ae_ ?g1
   case' g1 => refine' aq_ ?g2
   case' g2 => refine' aj_ C_Llow (hr.mono (by decide)) iM_ ?g3
   case' g3 => refine' pa_c ?g4 ?g5
   case' g4 => refine' pe_op aN_ ?g6 ?g7
   case' g6 => refine' pe_op a8_ ?g8 ?g9
   case' g8 => refine' pe_ix ao_ (pv1 0 rfl gD_) ab_ (fun _ _ => rfl)
   case' g9 => refine' pe_ix ao_ (pv1 1 rfl gE_) ab_ (fun _ _ => rfl)
   case' g7 => refine' pe_op a8_ ?g14 ?g15
   case' g14 => refine' pe_ix ao_ (pv1 1 rfl gE_) ab_ (fun _ _ => rfl)
   case' g15 => refine' pe_ix ao_ (pv1 0 rfl gD_) ab_ (fun _ _ => rfl)
   case' g5 => refine' pa_c ?g20 aa_
   case' g20 => refine' pe_op a8_ ?g22 ?g23
   case' g22 => refine' pe_ix ao_ (pv1 0 rfl gD_) ab_ (fun _ _ => rfl)
   case' g23 => refine' pe_ix ao_ (pv1 1 rfl gE_) ab_ (fun _ _ => rfl)
  case R =>
   walk_at "rd"
   simp only [hx, hy, Option.some.injEq, HO.tup.injEq, exists_eq_left']
   walk_at "rd"
   exact ⟨by omega, by omega, by omega, _, _, rfl, Int.mul_pos p0 q0, by omega, fun z H' s' rep => k z H' s' rep⟩
abbrev s_Lmul : Stmt := stN 43
theorem nF_ : FnScope ["_law_one", "_law_other"] ["_law_one", "_law_other"] (defScope s_Lmul) := ⟨rfl, rfl, rfl, by decide +kernel, rfl, by decide +kernel, by decide +kernel⟩
theorem iN_ : LK s_Lmul "_law_one" .local := by decide +kernel
theorem iO_ : LK s_Lmul "_law_other" .local := by decide +kernel
theorem iP_ : LK s_Lmul "_law_low" .globalImplicit := by decide +kernel
theorem nG_ (T : Txt K mg) (F : Fn0 K mg "_law_mul" s_Lmul) (C_Llow : Cal P w K mg base "_law_low" ["_law_top", "_law_bottom"] 1 sp_low) : Cal P w K mg base "_law_mul" ["_law_one", "_law_other"] 2 (sp_lw (fun p q => p.1 * q.1)) := by
 refine aJ_ F nF_ (fun _ _ _ _ _ _ us hl => match us, hl with | [_, _], _ => rfl) ?len ?body
 case len => rintro vs H Q E ⟨a, b, c, d, rfl, _⟩; rfl
 case body =>
  intro f cdv A outer s H vs Q E hr h
  obtain ⟨v, u, p, q, rfl, hv, hu, p0, q0, p1, p2, q1, q2, k⟩ := h
  obtain ⟨x, rfl, hx⟩ := bC_ hv
  obtain ⟨y, rfl, hy⟩ := bC_ hu
  have a3 := bd_ p2 q2 (by decide)
  refine' ⟨_, ?D, ?R⟩
  case D =>
   refine' ae_ ?g1
   case' g1 => refine' aq_ ?g2
   case' g2 => refine' aj_ C_Llow (hr.mono (by decide)) iP_ ?g3
   case' g3 => refine' pa_c ?g4 ?g5
   case' g4 => refine' pe_op a8_ ?g6 ?g7
   case' g6 => refine' pe_ix ao_ (pv1 0 rfl iN_) ab_ (fun _ _ => rfl)
   case' g7 => refine' pe_ix ao_ (pv1 1 rfl iO_) ab_ (fun _ _ => rfl)
   case' g5 => refine' pa_c ?g12 aa_
   case' g12 => refine' pe_op a8_ ?g14 ?g15
   case' g14 => refine' pe_ix ao_ (pv1 0 rfl iN_) ab_ (fun _ _ => rfl)
   case' g15 => refine' pe_ix ao_ (pv1 1 rfl iO_) ab_ (fun _ _ => rfl)
  case R =>
   walk_at "rd"
   simp only [hx, hy, Option.some.injEq, HO.tup.injEq, exists_eq_left']
   walk_at "rd"
   exact ⟨by omega, by omega, _, _, rfl, Int.mul_pos p0 q0, by omega, fun z H' s' rep => k z H' s' rep⟩
abbrev s_Lless : Stmt := stN 44
theorem mo_ : FnScope ["_law_one", "_law_other"] ["_law_one", "_law_other"] (defScope s_Lless) := ⟨rfl, rfl, rfl, by decide +kernel, rfl, by decide +kernel, by decide +kernel⟩
theorem fm_ : LK s_Lless "_law_one" .local := by decide +kernel
theorem fn_ : LK s_Lless "_law_other" .local := by decide +kernel
theorem hM_ : LK s_Lless "_law_low" .globalImplicit := by decide +kernel
theorem mp_ (T : Txt K mg) (F : Fn0 K mg "_law_less" s_Lless) (C_Llow : Cal P w K mg base "_law_low" ["_law_top", "_law_bottom"] 1 sp_low) : Cal P w K mg base "_law_less" ["_law_one", "_law_other"] 2 (sp_lw (fun p q => p.1 * q.2 - q.1 * p.2)) := by
 refine aJ_ F mo_ (fun _ _ _ _ _ _ us hl => match us, hl with | [_, _], _ => rfl) ?len ?body
 case len => rintro vs H Q E ⟨a, b, c, d, rfl, _⟩; rfl
 case body =>
  intro f cdv A outer s H vs Q E hr h
  obtain ⟨v, u, p, q, rfl, hv, hu, p0, q0, p1, p2, q1, q2, k⟩ := h
  obtain ⟨x, rfl, hx⟩ := bC_ hv
  obtain ⟨y, rfl, hy⟩ := bC_ hu
  have a3 := bd_ p2 q2 (by decide)
  refine' ⟨_, ?D, ?R⟩
  case D =>
   refine' ae_ ?g1
   case' g1 => refine' aq_ ?g2
   case' g2 => refine' aj_ C_Llow (hr.mono (by decide)) hM_ ?g3
   case' g3 => refine' pa_c ?g4 ?g5
   case' g4 => refine' pe_op kS_ ?g6 ?g7
   case' g6 => refine' pe_op a8_ ?g8 ?g9
   case' g8 => refine' pe_ix ao_ (pv1 0 rfl fm_) ab_ (fun _ _ => rfl)
   case' g9 => refine' pe_ix ao_ (pv1 1 rfl fn_) ab_ (fun _ _ => rfl)
   case' g7 => refine' pe_op a8_ ?g14 ?g15
   case' g14 => refine' pe_ix ao_ (pv1 1 rfl fn_) ab_ (fun _ _ => rfl)
   case' g15 => refine' pe_ix ao_ (pv1 0 rfl fm_) ab_ (fun _ _ => rfl)
   case' g5 => refine' pa_c ?g20 aa_
   case' g20 => refine' pe_op a8_ ?g22 ?g23
   case' g22 => refine' pe_ix ao_ (pv1 0 rfl fm_) ab_ (fun _ _ => rfl)
   case' g23 => refine' pe_ix ao_ (pv1 1 rfl fn_) ab_ (fun _ _ => rfl)
  case R =>
   walk_at "rd"
   simp only [hx, hy, Option.some.injEq, HO.tup.injEq, exists_eq_left']
   walk_at "rd"
   exact ⟨by omega, by omega, by omega, _, _, rfl, Int.mul_pos p0 q0, by omega, fun z H' s' rep => k z H' s' rep⟩
theorem lE_ {J : It} {g : TG} {tt : TT} {te : TE} {σ : L2.St} {H : Hp} {Q : VK} (n : Nat) (Pσ : L2.St → Prop) (h0 : Pσ σ) (hgo : ∀ i H', i < n → Same H H' → J.go i H') (hst : ∀ H', Same H H' → J.stop n H')
  (hs : ∀ D i x σ' H' H'', H D = none → Same H H' → i < n → J.yld i H' x H'' → Pσ σ' → ∀ X R : L2.St → Hp → Prop, (∀ σ2 H3, Pσ σ2 → Same H' H3 → R σ2 H3) → g x σ' H'' fun σ2 H2 => tt σ2 H2 fun b H3 => if b = true then X σ2 H3 else R σ2 H3)
  (hd : ∀ D H', H D = none → Same H H' → H' D = some (.lst []) → Q (.ref D) H') : CompGo J g tt te σ H Q := by
 intro D hD
 refine ⟨fun i m σ' H' => m = n - i ∧ i ≤ n ∧ Pσ σ' ∧ Same H H' ∧ H' D = some (.lst []), ⟨n, by simp, Nat.zero_le _, h0, Same.new hD, ac_⟩, ?_⟩
 rintro i m σ' H' ⟨rfl, hi, hp, hs', hDD⟩
 by_cases hlt : i < n
 ·refine .inr ⟨hgo i H' hlt hs', fun σ2 H2 => Pσ σ2 ∧ Same H H2 ∧ H2 D = some (.lst []), fun σ2 H2 ⟨a, b, c⟩ => ⟨n - (i + 1), by omega, rfl, hlt, a, b, c⟩, fun x H'' hy => ?_⟩
  exact hs D i x σ' H' H'' hD hs' hlt hy hp _ _ fun σ2 H3 hp2 s3 => ⟨hp2, hs'.trans s3, s3 _ _ hDD⟩
 ·have e : i = n := by omega
  subst e
  exact .inl ⟨hst H' hs', hd D H' hD hs' hDD⟩
abbrev s_Lis_grid : Stmt := stN 47
theorem gF_ : FnScope ["_law_found", "_law_rows", "_law_columns", "_law_row"] ["_law_found", "_law_rows", "_law_columns"] (defScope s_Lis_grid) := ⟨rfl, rfl, rfl, by decide +kernel, rfl, by decide +kernel, by decide +kernel⟩
theorem dh_ : LK s_Lis_grid "_law_found" .local := by decide +kernel
theorem hN_ : LK s_Lis_grid "_law_rows" .local := by decide +kernel
theorem hO_ : LK s_Lis_grid "_law_columns" .local := by decide +kernel
theorem b6_ : LK s_Lis_grid "_law_row" .local := by decide +kernel
theorem bE_ : LK s_Lis_grid "isinstance" .globalImplicit := by decide +kernel
theorem dN_ : LK s_Lis_grid "len" .globalImplicit := by decide +kernel
theorem dr_ : LK s_Lis_grid "list" .globalImplicit := by decide +kernel
def sp_isg (K : PySem.W.Frag) : Sp := fun vs H Q _ => ∃ (J : Hp) (v : V) (g : List (List (Int × Int))) (m n : Nat), VG K H J ∧ vs = [v, .int m, .int n] ∧ Rep J v (dG g) ∧ g.length = m ∧ (∀ r ∈ g, r.length = n ∧ ∀ p ∈ r, Low p ∧ Builtin.Int.intBits p.2 ≤ 8000) ∧ ∀ H', Same H H' → Q (.bl true) H'
theorem jz_ (T : Txt K mg) (F : Fn0 K mg "_law_is_grid" s_Lis_grid) (C_Lis_fraction : Cal P w K mg base "_law_is_fraction" ["_law_found"] 2 (sp_isf K)) : Cal P w K mg base "_law_is_grid" ["_law_found", "_law_rows", "_law_columns"] 3 (sp_isg K) := by
 refine aJ_ F gF_ (fun _ _ _ _ _ _ us hl => match us, hl with | [_, _, _], _ => rfl) ?len ?body
 case len => rintro vs H Q E ⟨a, b, c, d, e, _, rfl, _⟩; rfl
 case body =>
  intro f cdv A outer s H vs Q E hr h
  obtain ⟨J, v, g, m, n, hJ, rfl, hv, hm, hrow, k⟩ := h
  obtain ⟨p, xs, rfl, hpJ, hxs⟩ := id hv
  have hp := hJ.2 _ _ hpJ
  have hl : xs.length = g.length := by rw [hxs.length, List.length_map]
  refine' ⟨_, ?D, ?R⟩
  case D =>
   refine' ad_ ?g1 ?g2
   case' g1 => refine' ps_if ?g3 ?g4 aL_
   case' g3 => refine' PW.pt ?g6
   case' g6 => refine' pw_or ?g7 ?g8
   case' g7 => refine' d5_ ?g9
   case' g9 => refine' d4_ ?g10
   case' g10 => refine' al_ fN_ bE_ T.n_isinstance aV_ ?g11
   case' g11 => refine' pa_c (pv1 0 rfl dh_) ?g13
   case' g13 => refine' pa_c ?g14 aa_
   case g14 => exact gZ_ dr_ T.n_list e5_
   case' g8 => refine' hZ_ ?g16
   case' g16 => refine' az_ op_ne ?g17 (pv1 1 rfl hN_) (nomark _)
   case' g17 => refine' al_ am_ dN_ T.n_len aQ_ ?g19
   case' g19 => refine' pa_c (pv1 0 rfl dh_) aa_
   case' g4 => refine' ae_ ?g22
   case' g22 => refine' aq_ pe_bl
   case' g2 => refine' ad_ ?g24 ?g25
   case' g24 => refine' bg_ PassesOwn.never rfl ?g26 ?g27 ?g28
   case' g26 => refine' aK_ (K := K) rfl (pv1 0 rfl dh_)
   case g27 => exact ak_ (i := 3) gF_.nd rfl b6_
   case' g28 => refine' ad_ ?g30 ?g31
   case' g30 => refine' ps_if ?g32 ?g33 aL_
   case' g32 => refine' PW.pt ?g35
   case' g35 => refine' pw_or ?g36 ?g37
   case' g36 => refine' d5_ ?g38
   case' g38 => refine' d4_ ?g39
   case' g39 => refine' al_ fN_ bE_ T.n_isinstance aV_ ?g40
   case' g40 => refine' pa_c (pv1 3 rfl b6_) ?g42
   case' g42 => refine' pa_c ?g43 aa_
   case g43 => exact gZ_ dr_ T.n_list e5_
   case' g37 => refine' hZ_ ?g45
   case' g45 => refine' az_ op_ne ?g46 (pv1 2 rfl hO_) (nomark _)
   case' g46 => refine' al_ am_ dN_ T.n_len aQ_ ?g48
   case' g48 => refine' pa_c (pv1 3 rfl b6_) aa_
   case' g33 => refine' ae_ ?g51
   case' g51 => refine' aq_ pe_bl
   case' g31 => refine' ae_ ?g53
   case' g53 => refine' ps_if ?g54 ?g55 aL_
   case' g54 => refine' az_ (ih_ (hr.units)) ?g57 ?g58 (nomark _)
   case' g57 => refine' bY_ (N' := ["_law_number"]) (ix := [none]) rfl rfl (bR_ ?g59) ?g60 (fun _ _ _ => ?g61) (fun _ _ _ => ?g62) (fun _ _ _ => (pv1 0 rfl rfl))
   case g59 => exact (by show scpB (defScope s_Lis_grid) ["_law_found", "_law_rows", "_law_columns", "_law_row"] _ _ _ = true; decide +kernel)
   case' g60 => refine' aK_ (K := K) rfl (pv1 3 rfl b6_)
   case g61 => exact ak_ (i := 0) (by show List.Nodup (["_law_number"] : List Str); decide +kernel) rfl rfl
   case' g62 => refine' k6_ ?g65
   case' g65 => refine' d5_ ?g66
   case' g66 => refine' d4_ ?g67
   case' g67 => refine' aj_ C_Lis_fraction (hr.mono (by decide)) rfl ?g68
   case' g68 => refine' pa_c (pv1 0 rfl rfl) aa_
   case' g58 => refine' cG_ aa_
   case' g55 => refine' ae_ ?g72
   case' g72 => refine' aq_ pe_bl
   case' g25 => refine' ae_ ?g74
   case' g74 => refine' aq_ pe_bl
  case R =>
   walk_at "rd"
   have hk : kindV H (.ref p) = some "list" := by simp [kindV, hp]
   refine ⟨_, hk, ?_⟩
   rw [if_neg (by decide)]
   refine ⟨_, .inl hp, ?_⟩
   rw [if_neg (by omega)]
   refine ⟨⟨xs, .inl (.inl hp)⟩, ?_⟩
   refine dT_ (xs := xs) (fun i σ H' => ∃ z, σ = [some (.ref p), some (.int m), some (.int n), z] ∧ Same H H') ⟨_, rfl, Same.refl _⟩ ?_ ?_ ?_
   ·rintro i σ H' hi ⟨z, rfl, s1⟩
    exact .inl (.inl (s1 _ _ hp))
   ·rintro i x σ H' hx kk kb hk hb G hG ⟨z, rfl, s1⟩
    obtain ⟨q, ys, r, hr0, rfl, hqJ, hys⟩ := eR_ hxs hx
    have hrr := hrow r (List.mem_of_getElem? hr0)
    have hyl : ys.length = n := by rw [hys.length, List.length_map]; exact hrr.1
    have hq1 := s1 _ _ (hJ.2 _ _ hqJ)
    walk_at "rd"
    have hk1 : kindV H' (.ref q) = some "list" := by simp [kindV, hq1]
    refine ⟨_, hk1, ?_⟩
    rw [if_neg (by decide)]
    refine ⟨_, .inl hq1, ?_⟩
    rw [if_neg (by omega)]
    refine ⟨⟨ys, .inl (.inl hq1)⟩, ?_⟩
    refine lE_ (n := ys.length) (Pσ := fun σ => ∃ e, σ = [e]) ⟨_, rfl⟩ (fun j H2 hj s2 => ⟨ys, ys[j], .inl (.inl (s2 _ _ hq1)), by simp [hj]⟩) (fun H2 s2 => ⟨ys, .inl (.inl (s2 _ _ hq1)), Nat.le_refl _⟩) ?_ ?_
    ·rintro D j y σ' H2 H2' hD s2 hj ⟨rfl, hy⟩ ⟨e, rfl⟩ X R kR
     have hy' := hy ys (.inl (.inl (s2 _ _ hq1)))
     obtain ⟨q2, z2, hz2, rfl, hq2⟩ := lB_ hys hy'
     have lz := hrr.2 z2 (List.mem_of_getElem? hz2)
     walk_at "rd"
     refine ⟨_, z2, rfl, ⟨q2, rfl, Same.seqT (s1.trans s2) (hJ.1 _ _ hq2)⟩, lz.1, lz.2, fun H3 s3 => ⟨_, rfl, ?_⟩⟩
     rw [if_neg (by decide)]
     exact kR _ _ ⟨_, rfl⟩ s3
    ·intro D H2 hD s2 hDD
     refine ⟨by decide, fun D2 hD2 => ?_⟩
     refine ⟨D, rfl, .lst [], ⟨D, [], rfl, (Same.new hD2) _ _ hDD, rfl⟩, .lst [], ⟨D2, [], rfl, ac_, rfl⟩, true, by simp [deq, deqs], by simp [dep, deps], ?_⟩
     walk_at "rd"
     exact s1.trans (s2.trans (Same.new hD2))
   ·rintro σ H' ⟨z, rfl, s1⟩
    walk_at "rd"
    exact k _ s1
structure Nt (K : PySem.W.Frag) (mg : Str → Option Value) (CN : Addr) : Prop where
 m : mg "NOUGHT" = some (.ref CN)
 sq : ∀ H : Hp, SqT K H CN [.int 0, .int 1]
 lk : ∃ o, K.lookup CN = some o
variable {CN : Addr}
def But (l : Addr) (H H' : Hp) : Prop := ∀ b o, b ≠ l → H b = some o → H' b = some o
theorem But.trans {l : Addr} {H H1 H2 : Hp} (a : But l H H1) (b : But l H1 H2) : But l H H2 := fun c o n h => b c o n (a c o n h)
theorem But.of {l : Addr} {H H' : Hp} (s : Same H H') : But l H H' := fun b o _ h => s b o h
theorem But.upd {l : Addr} {H H' : Hp} {o : HO} (a : But l H H') : But l H (L2.upd H' l o) := fun b z n h => by rw [af_ n]; exact a b z n h
structure Pl (B H : Hp) (d : Addr) (f : Str → Str → Int) (Bt : Int) (n : Nat) : Prop where
 ex : ∃ kvs : List (List Key × V), H d = some (.dT kvs) ∧ kvs.length ≤ n ∧ (∀ x y v, valV kvs [.inr x, .inr y] = some v → ∃ q, v = .ref q ∧ B q = none ∧ H q = some (.tup [.int (nf (f x y) Bt).1, .int (nf (f x y) Bt).2])) ∧ ∀ x y, valV kvs [.inr x, .inr y] = none → f x y = 0
 le : ∀ x y, (f x y).natAbs ≤ n * (1000 * Bt).natAbs
theorem Pl.mono {B H H' : Hp} {d : Addr} {f : Str → Str → Int} {Bt : Int} {n : Nat} (h : Pl B H d f Bt n) (s : Same H H') : Pl B H' d f Bt n := by
 obtain ⟨⟨kvs, h1, h2, h3, h4⟩, h5⟩ := h
 exact ⟨⟨kvs, s _ _ h1, h2, fun x y v e => let ⟨q, a, b, c⟩ := h3 x y v e; ⟨q, a, b, s _ _ c⟩, h4⟩, h5⟩
theorem Pl.put {B H : Hp} {d z : Addr} {f : Str → Str → Int} {Bt X : Int} {n : Nat} {a b : Str} {kvs : List (List Key × V)} (h1 : H d = some (.dT kvs)) (h2 : kvs.length ≤ n) (h3 : ∀ x y v, valV kvs [.inr x, .inr y] = some v → ∃ q, v = .ref q ∧ B q = none ∧ H q = some (.tup [.int (nf (f x y) Bt).1, .int (nf (f x y) Bt).2])) (h4 : ∀ x y, valV kvs [.inr x, .inr y] = none → f x y = 0)
  (h5 : ∀ x y, (f x y).natAbs ≤ n * (1000 * Bt).natAbs) (hX : X.natAbs ≤ (1000 * Bt).natAbs) (hz : H z = some (.tup [.int (nf (f a b + X) Bt).1, .int (nf (f a b + X) Bt).2])) (zB : B z = none) : Pl B (L2.upd H d (.dT (putK kvs [.inr a, .inr b] (.ref z)))) d (fadd f a b X) Bt (n + 1) := by
 have ne : ∀ q xs, H q = some (.tup xs) → L2.upd H d (.dT (putK kvs [.inr a, .inr b] (.ref z))) q = some (.tup xs) := fun q xs e => by
  rw [af_ (fun c => by rw [c, h1] at e; cases e)]; exact e
 have key : ∀ x y, ([.inr x, .inr y] : List Key) = [.inr a, .inr b] ↔ x = a ∧ y = b := fun x y => by simp
 refine ⟨⟨_, ac_, Nat.le_trans (bn_ _ _ _) (by omega), fun x y v e => ?_, fun x y e => ?_⟩, fun x y => nr_ h5 hX x y⟩
 ·rw [eA_] at e
  by_cases hxy : x = a ∧ y = b
  ·rw [if_pos ((key x y).mpr hxy)] at e
   cases e
   refine ⟨z, rfl, zB, ne _ _ ?_⟩
   unfold fadd
   rw [if_pos hxy, hxy.1, hxy.2]
   exact hz
  ·rw [if_neg (fun c => hxy ((key x y).mp c))] at e
   obtain ⟨q, e1, e2, e3⟩ := h3 x y v e
   refine ⟨q, e1, e2, ne _ _ ?_⟩
   unfold fadd
   rw [if_neg hxy]
   exact e3
 ·rw [eA_] at e
  by_cases hxy : x = a ∧ y = b
  ·rw [if_pos ((key x y).mpr hxy)] at e
   cases e
  ·rw [if_neg (fun c => hxy ((key x y).mp c))] at e
   unfold fadd
   rw [if_neg hxy]
   exact h4 x y e
theorem mQ_ {B H : Hp} {f : Str → Str → Int} {Bt : Int} {kvs : List (List Key × V)} (hN : Nt K mg CN) (hB : Bt ≠ 0) (h3 : ∀ x y v, valV kvs [.inr x, .inr y] = some v → ∃ q, v = .ref q ∧ B q = none ∧ H q = some (.tup [.int (nf (f x y) Bt).1, .int (nf (f x y) Bt).2])) (h4 : ∀ x y, valV kvs [.inr x, .inr y] = none → f x y = 0) (x y : Str) :
  FQ K H ((valV kvs [.inr x, .inr y]).getD (.ref CN)) (nf (f x y) Bt) := by
 cases e : valV kvs [.inr x, .inr y] with
 | none =>
  rw [h4 x y e, hG_ hB]
  exact ⟨CN, rfl, hN.sq H⟩
 | some v =>
  obtain ⟨q, e1, _, e3⟩ := h3 x y v e
  exact ⟨q, e1, SqT.of e3⟩
theorem kb_ : ∀ (kvs D : List (Key × V)), ((D ++ kvs).map (·.1)).Nodup → mergeK D kvs = D ++ kvs
 | [], D, _ => by rw [List.append_nil]; rfl
 | kv :: kvs, D, h => by
  have hn : valV D kv.1 = none := by
   cases e : valV D kv.1 with
   | none => rfl
   | some v =>
    have h1 := nc_ e
    rw [List.map_append, List.nodup_append] at h
    exact absurd rfl (h.2.2 _ h1 kv.1 (by simp))
  show mergeK (putK D kv.1 kv.2) kvs = _
  rw [l7_ _ hn, kb_ kvs (D ++ [kv]) (by rw [List.append_assoc]; exact h), List.append_assoc]
  rfl
theorem lF_ : ∀ {kvs : List (Key × V)} {k : Key} {v : V}, (kvs.map (·.1)).Nodup → (k, v) ∈ kvs → valV kvs k = some v
 | kv :: kvs, k, v, h, hm => by
  rcases List.mem_cons.mp hm with e | e
  ·rw [← e]; exact be_ rfl
  ·have h' := List.nodup_cons.mp h
   rw [a9_ (fun c => h'.1 (List.mem_map.mpr ⟨_, e, (show kv.1 = k from c).symm⟩))]
   exact lF_ h'.2 e
def bN (N : Net Str) : Int := bot N.worths
def wN (N : Net Str) (x : Str) : Int × Int := ((N.worths.find? fun r => decide (r.1 = x)).map (·.2)).getD (0, 1)
def p1 (kv : Str × List (End Str)) : Str := (kv.2.head?.map (·.1)).getD Str.empty
def p2 (kv : Str × List (End Str)) : Str := (kv.2[1]?.map (·.1)).getD Str.empty
def tie (N : Net Str) (kv : Str × List (End Str)) : Str × Str × Int := (p1 kv, p2 kv, Xw (bN N) (wN N kv.1))
def ties (N : Net Str) : List (Str × Str × Int) := (endsN N).map (tie N)
theorem hd_ {N : Net Str} (ok : NetOk N) (wo : WOk N) : 0 < bN N ∧ bN N ≤ 1000 ^ 15 := by
 have := lp_ wo.ws
 exact ⟨this.1, Int.le_trans this.2 (og_ ok.wl)⟩
theorem wN_in {N : Net Str} (wo : WOk N) {x : Str} (h : x ∈ N.all) : (x, wN N x) ∈ N.worths := by
 obtain ⟨r, hr, e⟩ := List.mem_map.mp ((wo.mem x).mpr h)
 unfold wN
 cases z : N.worths.find? fun r => decide (r.1 = x) with
 | none =>
  have := List.find?_eq_none.mp z r hr
  simp [e] at this
 | some r' =>
  have h1 := List.mem_of_find?_eq_some z
  have h2 : r'.1 = x := of_decide_eq_true (by simpa using List.find?_some z)
  rw [← h2]
  exact h1
theorem wN_ok {N : Net Str} (ok : NetOk N) (wo : WOk N) {x : Str} (h : x ∈ N.all) : Ws (wN N x) ∧ Is (wN N x) (Xw (bN N) (wN N x)) (bN N) ∧ (Xw (bN N) (wN N x)).natAbs ≤ (1000 * bN N).natAbs := by
 have h1 := wN_in wo h
 have h2 := wo.ws _ h1
 have h3 := (hd_ ok wo).1
 exact ⟨h2, is_Xw h2.1 h3 (lq_ h1), Xw_le h2 h3⟩
theorem sm_of {n : Nat} {t Bt : Int} (h0 : 0 < Bt) (h1 : Bt ≤ 1000 ^ 15) (hn : n ≤ 62) (ht : t.natAbs ≤ n * (1000 * Bt).natAbs) : Low (nf t Bt) ∧ Builtin.Int.intBits (nf t Bt).1 ≤ 200 ∧ Builtin.Int.intBits (nf t Bt).2 ≤ 200 := by
 have ha := gn_ (t := t) (b := Bt) (by omega)
 refine ⟨(in_ (by omega)).1, PyProof.Rows.bits_of_natAbs_le (b := 62 * (1000 * 1000 ^ 15)) (Nat.le_trans ha.1 (Nat.le_trans ht ?_)) (by decide +kernel), PyProof.Rows.bits_of_natAbs_le (b := 1000 ^ 15) (Nat.le_trans ha.2 (by omega)) (by decide +kernel)⟩
 have : (1000 * Bt).natAbs ≤ (1000 * 1000 ^ 15 : Int).natAbs := by omega
 exact Nat.le_trans (Nat.mul_le_mul hn this) (by decide +kernel)
theorem Sm.of {p : Int × Int} (h : Low p ∧ Builtin.Int.intBits p.1 ≤ 200 ∧ Builtin.Int.intBits p.2 ≤ 200) : Sm p := ⟨h.1, by omega, by omega⟩
theorem Sm.ws {p : Int × Int} (h : Ws p) : Sm p := by
 have := h.1.pos
 obtain ⟨h1, h2, h3, h4⟩ := h
 exact ⟨h1, PyProof.Rows.bits_of_natAbs_le (b := 1000) (by omega) (by decide), PyProof.Rows.bits_of_natAbs_le (b := 1000) (by omega) (by decide)⟩
theorem nH_ : bootBuiltins "dict" = some (.type "dict") := by decide +kernel
theorem iQ_ {H : Hp} : ∀ {ws : List V} {wo : List (Str × (Int × Int))}, Reps H ws (wo.map dWo) → ∃ kvs : List (Key × V), kvs.map (·.1) = wo.map (fun r => Sum.inr r.1) ∧ ws.length = kvs.length ∧ (∀ (i : Nat) (q : Key × V), kvs[i]? = some q → ∃ a, ws[i]? = some (.ref a) ∧ H a = some (.tup [kV q.1, q.2])) ∧ ∀ r ∈ wo, ∃ v, (Sum.inr r.1, v) ∈ kvs ∧ Rep H v (dF r.2)
 | _, [], h => by
  cases h
  exact ⟨[], rfl, rfl, fun i q e => (nomatch e), fun r hr => (nomatch hr)⟩
 | _, r :: wo, ⟨x, l, e, hx, hl⟩ => by
  subst e
  obtain ⟨kvs, k1, k2, k3, k4⟩ := iQ_ hl
  obtain ⟨a, _, ea, ha, x1, _, e1, hx1, x2, _, e2, hx2, e3⟩ := hx
  subst e3 e2 e1
  cases hx1
  refine ⟨(.inr r.1, x2) :: kvs, by rw [List.map_cons, List.map_cons, k1], by rw [List.length_cons, List.length_cons, k2], fun i q e => ?_, fun r' hr => ?_⟩
  ·cases i with
   | zero => cases e; exact ⟨a, by rw [ea]; rfl, ha⟩
   | succ i => exact k3 i q e
  ·rcases List.mem_cons.mp hr with rfl | hr
   ·exact ⟨x2, List.mem_cons_self, hx2⟩
   ·obtain ⟨v, hv1, hv2⟩ := k4 r' hr
    exact ⟨v, List.mem_cons_of_mem _ hv1, hv2⟩
theorem lG_ : ∀ {acc : List (Str × List (End Str))} {ls : List Addr} {i : Nat} {k : Key} {x : V}, (kvsOf acc ls)[i]? = some (k, x) → ∃ kv l, acc[i]? = some kv ∧ ls[i]? = some l ∧ k = .inr kv.1 ∧ x = .ref l
 | [], _, _, _, _, h => by unfold kvsOf at h; rw [List.zipWith_nil_left] at h; cases h
 | _ :: _, [], _, _, _, h => by cases h
 | kv :: acc, l :: ls, 0, _, _, h => by cases h; exact ⟨kv, l, rfl, rfl, rfl, rfl⟩
 | kv :: acc, l :: ls, i + 1, _, _, h => lG_ (acc := acc) (ls := ls) (i := i) h
theorem gG_ {N : Net Str} {x : Str} : x ∈ (endsN N).map (·.1) ↔ x ∈ N.all := by
 have sp := b7_ _ (occ N.rows) rfl
 have e : (occ N.rows).map (·.1) = N.all := gm_ N.rows
 rw [← e]
 constructor
 ·intro h
  obtain ⟨kv, h1, rfl⟩ := List.mem_map.mp h
  obtain ⟨y, h2, h3⟩ := sp.2.2.2 kv h1
  exact List.mem_map.mpr ⟨y, h2, h3⟩
 ·intro h
  obtain ⟨y, h1, rfl⟩ := List.mem_map.mp h
  obtain ⟨kv, h2, h3⟩ := sp.2.2.1 y h1
  exact List.mem_map.mpr ⟨kv, h2, h3⟩
theorem iR_ {N : Net Str} (wo : WOk N) : ((endsN N).map (·.1)).Perm (N.worths.map (·.1)) := go_ (jh_ N) wo.nd fun x => by rw [gG_, wo.mem]
theorem lH_ {N : Net Str} (ok : NetOk N) (wo : WOk N) : (endsN N).length ≤ 15 := by
 have := (iR_ wo).length_eq
 rw [List.length_map, List.length_map] at this
 have := ok.wl
 omega
abbrev s_pulls_of : Stmt := stN 19
theorem br_ : FnScope ["net", "worths", "pulls", "wire", "pair", "near", "far"] ["net"] (defScope s_pulls_of) := ⟨rfl, rfl, rfl, by decide +kernel, rfl, by decide +kernel, by decide +kernel⟩
theorem eS_ : LK s_pulls_of "net" .local := by decide +kernel
theorem di_ : LK s_pulls_of "worths" .local := by decide +kernel
theorem bf_ : LK s_pulls_of "pulls" .local := by decide +kernel
theorem dj_ : LK s_pulls_of "wire" .local := by decide +kernel
theorem bA_ : LK s_pulls_of "pair" .local := by decide +kernel
theorem a6_ : LK s_pulls_of "near" .local := by decide +kernel
theorem dk_ : LK s_pulls_of "far" .local := by decide +kernel
theorem cz_ : LK s_pulls_of "NOUGHT" .globalImplicit := by decide +kernel
theorem fK_ : LK s_pulls_of "dict" .globalImplicit := by decide +kernel
theorem cR_ : LK s_pulls_of "ends_by_wire" .globalImplicit := by decide +kernel
theorem fo_ : LK s_pulls_of "minus" .globalImplicit := by decide +kernel
theorem fL_ : LK s_pulls_of "plus" .globalImplicit := by decide +kernel
def sp_pulls : Sp := fun vs H Q _ => ∃ (v : V) (N : Net Str), vs = [v] ∧ Rep H v (dNet N) ∧ NetOk N ∧ WOk N ∧ ∀ d H', Same H H' → H d = none → Pl H H' d (sm (ties N)) (bN N) (4 * (endsN N).length) → Q (.ref d) H'
theorem jA_ (T : Txt K mg) (hN : Nt K mg CN) (F : Fn0 K mg "pulls_of" s_pulls_of) (C_ends_by_wire : Cal P w K mg base "ends_by_wire" ["net"] 1 sp_ends) (C_plus : Cal P w K mg base "plus" ["one", "other"] 3 (sp_two K (fun p q => p.1 * q.2 + q.1 * p.2) (fun p q => p.2 * q.2))) (C_minus : Cal P w K mg base "minus" ["one", "other"] 3 (sp_two K (fun p q => p.1 * q.2 - q.1 * p.2) (fun p q => p.2 * q.2))) : Cal P w K mg base "pulls_of" ["net"] 4 sp_pulls := by
 refine aJ_ F br_ (fun _ _ _ _ _ _ us hl => match us, hl with | [_], _ => rfl) ?len ?body
 case len => rintro vs H Q E ⟨a, b, rfl, _⟩; rfl
 case body =>
  intro f cdv A outer s H vs Q E hr h
  obtain ⟨v, N, rfl, hv, ok, wo, k⟩ := h
  refine' ⟨_, ?D, ?R⟩
  case D =>
   refine' an_ ?g1 ?g2
   case' g1 => refine' ai_ (i := 1) br_.nd rfl di_ ?g3
   case' g3 => refine' dR_ (kz_ rfl) fK_ T.n_dict nH_ ?g4
   case' g4 => refine' pa_c ?g5 aa_
   case' g5 => refine' pe_ix ao_ (pv1 0 rfl eS_) ab_ (fun _ _ => rfl)
   case' g2 => refine' an_ ?g9 ?g10
   case g9 => exact ai_ (i := 2) br_.nd rfl bf_ jR_
   case' g10 => refine' ad_ ?g11 ?g12
   case' g11 => refine' bg_ PassesOwn.never rfl ?g13 ?g14 ?g15
   case' g13 => refine' lo_ ?g16
   case' g16 => refine' aj_ C_ends_by_wire (hr.mono (by decide)) cR_ ?g17
   case' g17 => refine' pa_c (pv1 0 rfl eS_) aa_
   case' g14 => refine' bc_ (K := K) (n := 2) rfl rfl ?g20
   case' g20 => refine' ap_ ?g21 ?g22
   case g21 => exact ak_ (i := 3) br_.nd rfl dj_
   case' g22 => refine' ap_ ?g23 ba_
   case g23 => exact ak_ (i := 4) br_.nd rfl bA_
   case' g15 => refine' ae_ ?g25
   case' g25 => refine' bg_ PassesOwn.never rfl ?g26 ?g27 ?g28
   case' g26 => refine' m7_ (K := K) rfl ?g29
   case' g29 => refine' aH_ ?g30
   case' g30 => refine' pa_c ?g31 ?g32
   case' g31 => refine' aH_ ?g33
   case' g33 => refine' pa_c ?g34 ?g35
   case' g34 => refine' pe_ix ao_ ?g36 ab_ (fun _ _ => rfl)
   case' g36 => refine' pe_ix ah_ (pv1 4 rfl bA_) ab_ (fun _ _ => rfl)
   case' g35 => refine' pa_c ?g40 aa_
   case' g40 => refine' pe_ix ao_ ?g42 ab_ (fun _ _ => rfl)
   case' g42 => refine' pe_ix ah_ (pv1 4 rfl bA_) ab_ (fun _ _ => rfl)
   case' g32 => refine' pa_c ?g46 aa_
   case' g46 => refine' aH_ ?g48
   case' g48 => refine' pa_c ?g49 ?g50
   case' g49 => refine' pe_ix ao_ ?g51 ab_ (fun _ _ => rfl)
   case' g51 => refine' pe_ix ah_ (pv1 4 rfl bA_) ab_ (fun _ _ => rfl)
   case' g50 => refine' pa_c ?g55 aa_
   case' g55 => refine' pe_ix ao_ ?g57 ab_ (fun _ _ => rfl)
   case' g57 => refine' pe_ix ah_ (pv1 4 rfl bA_) ab_ (fun _ _ => rfl)
   case' g27 => refine' bc_ (K := K) (n := 2) rfl rfl ?g61
   case' g61 => refine' ap_ ?g62 ?g63
   case g62 => exact ak_ (i := 5) br_.nd rfl a6_
   case' g63 => refine' ap_ ?g64 ba_
   case g64 => exact ak_ (i := 6) br_.nd rfl dk_
   case' g28 => refine' an_ ?g66 ?g67
   case' g66 => refine' gb_ (un1 hr.units) (pv1 2 rfl bf_) ?g69 ?g70 rfl
   case' g69 => refine' aH_ ?g71
   case' g71 => refine' pa_c (pv1 5 rfl a6_) ?g73
   case' g73 => refine' pa_c (pv1 5 rfl a6_) aa_
   case' g70 => refine' aj_ C_plus (hr.mono (by decide)) fL_ ?g76
   case' g76 => refine' pa_c ?g77 ?g78
   case' g77 => refine' hz_ (un1 hr.units) (pv1 2 rfl bf_) ?g80 ?g81 ⟨rfl, rfl, rfl, rfl⟩
   case' g80 => refine' aH_ ?g82
   case' g82 => refine' pa_c (pv1 5 rfl a6_) ?g84
   case' g84 => refine' pa_c (pv1 5 rfl a6_) aa_
   case g81 => exact gi_ hN.m cz_
   case' g78 => refine' pa_c ?g87 aa_
   case' g87 => refine' ea_ (un1 hr.units) (pv1 1 rfl di_) (pv1 3 rfl dj_) (fun _ _ => rfl)
   case' g67 => refine' ae_ ?g91
   case' g91 => refine' gb_ (un1 hr.units) (pv1 2 rfl bf_) ?g93 ?g94 rfl
   case' g93 => refine' aH_ ?g95
   case' g95 => refine' pa_c (pv1 5 rfl a6_) ?g97
   case' g97 => refine' pa_c (pv1 6 rfl dk_) aa_
   case' g94 => refine' aj_ C_minus (hr.mono (by decide)) fo_ ?g100
   case' g100 => refine' pa_c ?g101 ?g102
   case' g101 => refine' hz_ (un1 hr.units) (pv1 2 rfl bf_) ?g104 ?g105 ⟨rfl, rfl, rfl, rfl⟩
   case' g104 => refine' aH_ ?g106
   case' g106 => refine' pa_c (pv1 5 rfl a6_) ?g108
   case' g108 => refine' pa_c (pv1 6 rfl dk_) aa_
   case g105 => exact gi_ hN.m cz_
   case' g102 => refine' pa_c ?g111 aa_
   case' g111 => refine' ea_ (un1 hr.units) (pv1 1 rfl di_) (pv1 3 rfl dj_) (fun _ _ => rfl)
   case' g12 => refine' ae_ ?g115
   case' g115 => refine' aq_ (pv1 2 rfl bf_)
  case R =>
   walk_at "rd"
   obtain ⟨pn, p0, p1, p2, rs, ws, rfl, hn, h0, h1, r1, h2, r2⟩ := dK_ hv
   obtain ⟨kvs, kn, kl, kp, kw⟩ := iQ_ r2
   have knd : (kvs.map (·.1)).Nodup := by
    rw [kn]
    exact List.pairwise_map.mpr ((List.pairwise_map.mp wo.nd).imp fun ne z => ne (Sum.inr.inj z))
   have wl := ok.wl
   have kl2 : kvs.length ≤ 15 := by
    have := congrArg List.length kn
    rw [List.length_map, List.length_map] at this
    omega
   refine ⟨pn, rfl, _, hn, _, atI_2, p2, rfl, ws, h2, kvs, kl, by omega, kp, fun wd nw => ?_⟩
   rw [kb_ kvs [] knd, List.nil_append]
   have S1 : Same H (upd H wd (HO.dK kvs)) := Same.new nw
   have hwd := ac_ (H := H) (a := wd) (o := HO.dK kvs)
   generalize upd H wd (HO.dK kvs) = H1 at *
   walk_at "rd"
   intro pd np
   have S2 : Same H1 (upd H1 pd (HO.dT [])) := Same.new np
   have hpd := ac_ (H := H1) (a := pd) (o := HO.dT [])
   generalize upd H1 pd (HO.dT []) = H2 at *
   try walk_at "rd"
   refine ⟨_, N, rfl, Rep.mono (S1.trans S2) _ hv, ok, fun d S ls H' sS de nd => ⟨d, rfl, _, de.dict, fun ob => ?_⟩⟩
   have S3 : Same H2 H' := sS.trans de.sH
   have hpd' := S3 _ _ hpd
   have dpd : d ≠ pd := fun e => by rw [e, hpd] at nd; cases nd
   have dwd : wd ≠ d := fun e => by rw [← e, S2 _ _ hwd] at nd; cases nd
   have wpd : wd ≠ pd := fun e => by rw [← e, hwd] at np; cases np
   have hd3 := ac_ (H := H') (a := d) (o := HO.frz ob (HO.dK (kvsOf (endsN N) ls)))
   have s23 : Same H2 (upd H' d (HO.frz ob (HO.dK (kvsOf (endsN N) ls)))) := S3.upd nd
   have sS3 : Same S (upd H' d (HO.frz ob (HO.dK (kvsOf (endsN N) ls)))) := de.sH.upd de.fd
   have hl3 : ∀ (i : Nat) (l : Addr) (kv : Str × List (End Str)), ls[i]? = some l → (endsN N)[i]? = some kv → l ≠ pd ∧ ∃ vs, upd H' d (HO.frz ob (HO.dK (kvsOf (endsN N) ls))) l = some (.lst vs) ∧ Reps S vs (kv.2.map dE) := fun i l kv e1 e2 => by
    obtain ⟨vs, g1, g2⟩ := de.lst i l kv e1 e2
    have lm := List.mem_of_getElem? e1
    refine ⟨fun e => ?_, vs, ?_, g2⟩
    ·have := de.fl l lm
     rw [e, sS _ _ hpd] at this
     cases this
    ·rw [af_ (fun e => de.dn (by rw [← e]; exact lm))]
     exact g1
   generalize upd H' d (HO.frz ob (HO.dK (kvsOf (endsN N) ls))) = H3 at *
   have len := jx_ de.len
   clear de
   refine of_ (fun i σ Hx => ∃ (e3 e4 e5 e6 : Option V), σ = [some (.ref pn), some (.ref wd), some (.ref pd), e3, e4, e5, e6] ∧ But pd H3 Hx ∧ Pl H Hx pd (sm ((ties N).take i)) (bN N) (4 * i)) ⟨_, _, _, _, rfl, fun _ _ _ h => h, ⟨⟨[], s23 _ _ hpd, Nat.le_refl _, fun x y v e => (nomatch e), fun x y _ => rfl⟩, fun x y => Nat.zero_le _⟩⟩ ?_ ?_ ?_
   ·rintro i σ Hx hi ⟨e3, e4, e5, e6, rfl, hb, pl⟩
    exact hb _ _ dpd hd3
   ·rintro i kk0 x T0 σ Hx hx nT kk kb hk hbk G hG ⟨e3, e4, e5, e6, rfl, hb, pl⟩
    obtain ⟨kv, l, a1, a2, rfl, rfl⟩ := lG_ hx
    obtain ⟨lpd, vs, hl, rvs⟩ := hl3 i l kv a2 a1
    obtain ⟨ea, eb, e2⟩ := hE_ ok (List.mem_of_getElem? a1)
    rw [e2] at rvs
    obtain ⟨xa, _, ex1, ⟨va, _, rfl, hva, _, _, ea1, hea1, _, _, ea2, hea2, ea3⟩, xb, _, ex2, ⟨vb, _, rfl, hvb, _, _, eb1, heb1, _, _, eb2, heb2, eb3⟩, ex3⟩ := rvs
    subst ex3 ex2 ex1 ea3 ea2 ea1 eb3 eb2 eb1
    cases hea1
    cases hea2
    cases heb1
    cases heb2
    have old : ∀ b o, S b = some o → b ≠ pd → Hx b = some o := fun b o e ne => hb _ _ ne (sS3 _ _ e)
    have hpS := sS _ _ hpd
    have vapd : va ≠ pd := fun e => by rw [e, hpS] at hva; cases hva
    have vbpd : vb ≠ pd := fun e => by rw [e, hpS] at hvb; cases hvb
    have S4 := Same.new nT (o := HO.tup [kV (Sum.inr kv.1), V.ref l])
    have hT := ac_ (H := Hx) (a := T0) (o := HO.tup [kV (Sum.inr kv.1), V.ref l])
    have hl4 := S4 _ _ (hb _ _ lpd hl)
    have hva4 := S4 _ _ (old _ _ hva vapd)
    have hvb4 := S4 _ _ (old _ _ hvb vbpd)
    have pl4 := pl.mono S4
    have hb4 := hb.trans (But.of S4)
    generalize upd Hx T0 (HO.tup [kV (Sum.inr kv.1), V.ref l]) = H4 at *
    clear S4 pl hb nT
    walk_at "rd"
    refine ⟨_, SqT.of hT, rfl, _, _, rfl, _, _, rfl, rfl, l, rfl, _, hl4, _, atI_0, va, rfl, _, hva4, _, atI_0, l, rfl, _, hl4, _, atI_1, vb, rfl, _, hvb4, _, atI_0, by decide, fun t1 n1 => ?_⟩
    have S5 := Same.new n1 (o := HO.tup [V.str ea.1, V.str eb.1])
    have ht1 := ac_ (H := H4) (a := t1) (o := HO.tup [V.str ea.1, V.str eb.1])
    generalize upd H4 t1 (HO.tup [V.str ea.1, V.str eb.1]) = H5 at *
    refine ⟨l, rfl, _, S5 _ _ hl4, _, atI_1, vb, rfl, _, S5 _ _ hvb4, _, atI_0, l, rfl, _, S5 _ _ hl4, _, atI_0, va, rfl, _, S5 _ _ hva4, _, atI_0, by decide, fun t2 n2 => ⟨by decide, fun tt nt => ?_⟩⟩
    have S6 := Same.new n2 (o := HO.tup [V.str eb.1, V.str ea.1])
    have ht2 := ac_ (H := H5) (a := t2) (o := HO.tup [V.str eb.1, V.str ea.1])
    generalize upd H5 t2 (HO.tup [V.str eb.1, V.str ea.1]) = H6 at *
    have S7 := Same.new nt (o := HO.tup [V.ref t1, V.ref t2])
    have htt := ac_ (H := H6) (a := tt) (o := HO.tup [V.ref t1, V.ref t2])
    generalize upd H6 tt (HO.tup [V.ref t1, V.ref t2]) = H7 at *
    have S47 := S5.trans (S6.trans S7)
    have pl7 := pl4.mono S47
    have hb7 := hb4.trans (But.of S47)
    have ht17 := (S6.trans S7) _ _ ht1
    have ht27 := S7 _ _ ht2
    clear hl4 hva4 hvb4 S5 S6 S7 S47 pl4 hb4 hT ht1 ht2 n1 n2 nt
    try walk_at "rd"
    have kin : kv.1 ∈ N.all := gG_.mp (List.mem_map.mpr ⟨kv, List.mem_of_getElem? a1, rfl⟩)
    obtain ⟨wws, wis, wle⟩ := wN_ok ok wo kin
    obtain ⟨wv, wv1, wv2⟩ := kw _ (wN_in wo kin)
    have wval := lF_ knd wv1
    obtain ⟨fa, rfl, hfa⟩ := bC_ wv2
    have Hpd : H pd = none := S1.free np
    have fapd : fa ≠ pd := fun e => by rw [e, Hpd] at hfa; cases hfa
    have hfa3 := s23 _ _ ((S1.trans S2) _ _ hfa)
    have hwd3 := s23 _ _ (S2 _ _ hwd)
    have il := List.getElem?_eq_some_iff.mp a1
    have i15 : i < 15 := Nat.lt_of_lt_of_le il.1 (lH_ ok wo)
    obtain ⟨bp, ble⟩ := hd_ ok wo
    have et : (ties N).take (i + 1) = (ties N).take i ++ [(ea.1, eb.1, Xw (bN N) (wN N kv.1))] := by
     have e3 : (ties N)[i]? = some (ea.1, eb.1, Xw (bN N) (wN N kv.1)) := by
      unfold ties
      rw [List.getElem?_map, a1]
      show some (tie N kv) = _
      unfold tie Rim21.p1 Rim21.p2
      rw [e2]
      rfl
     rw [List.take_succ, e3]
     rfl
    generalize Xw (bN N) (wN N kv.1) = X at *
    have wneg : (-X).natAbs ≤ (1000 * bN N).natAbs := by rw [Int.natAbs_neg]; exact wle
    refine ⟨⟨_, SqT.of htt⟩, nm_ (xs := [V.ref t1, V.ref t2]) (fun j σ Hy => ∃ e5 e6, σ = [some (V.ref pn), some (V.ref wd), some (V.ref pd), some (V.str kv.1), some (V.ref l), e5, e6] ∧ But pd H7 Hy ∧ Pl H Hy pd (if j = 0 then sm ((ties N).take i) else if j = 1 then fadd (fadd (sm ((ties N).take i)) ea.1 ea.1 X) ea.1 eb.1 (-X) else fadd (fadd (fadd (fadd (sm ((ties N).take i)) ea.1 ea.1 X) ea.1 eb.1 (-X)) eb.1 eb.1 X) eb.1 ea.1 (-X)) (bN N) (4 * i + 2 * j)) ⟨_, _, rfl, fun _ _ _ h => h, pl7⟩ ?_ ?_ ?_⟩
    ·rintro j σ Hy hj ⟨e5, e6, rfl, hb, pl⟩
     exact SqT.of (hb _ _ (fun e => by rw [e] at htt; obtain ⟨⟨_, z, _⟩, _⟩ := pl7; rw [z] at htt; cases htt) htt)
    ·rintro j x σ Hy hx kk1 kb1 hk1 hb1 G1 hG1 ⟨e5, e6, rfl, hb, pl⟩
     have tne : ∀ t xs, H7 t = some (.tup xs) → t ≠ pd := fun t xs h e => by
      obtain ⟨⟨_, z, _⟩, _⟩ := pl7
      rw [e, z] at h
      cases h
     obtain ⟨a, b, t, rfl, ht, hfj, j2⟩ : ∃ a b t, x = .ref t ∧ Hy t = some (.tup [.str a, .str b]) ∧ (if j + 1 = 0 then sm ((ties N).take i) else if j + 1 = 1 then fadd (fadd (sm ((ties N).take i)) ea.1 ea.1 X) ea.1 eb.1 (-X) else fadd (fadd (fadd (fadd (sm ((ties N).take i)) ea.1 ea.1 X) ea.1 eb.1 (-X)) eb.1 eb.1 X) eb.1 ea.1 (-X)) = fadd (fadd (if j = 0 then sm ((ties N).take i) else if j = 1 then fadd (fadd (sm ((ties N).take i)) ea.1 ea.1 X) ea.1 eb.1 (-X) else fadd (fadd (fadd (fadd (sm ((ties N).take i)) ea.1 ea.1 X) ea.1 eb.1 (-X)) eb.1 eb.1 X) eb.1 ea.1 (-X)) a a X) a b (-X) ∧ j ≤ 1 := by
      cases j with
      | zero => cases hx; exact ⟨ea.1, eb.1, t1, rfl, hb _ _ (tne _ _ ht17) ht17, rfl, by decide⟩
      | succ j =>
       cases j with
       | zero => cases hx; exact ⟨eb.1, ea.1, t2, rfl, hb _ _ (tne _ _ ht27) ht27, rfl, by decide⟩
       | succ j => cases hx
     rw [hfj] at hk1
     generalize (if j = 0 then sm ((ties N).take i) else if j = 1 then fadd (fadd (sm ((ties N).take i)) ea.1 ea.1 X) ea.1 eb.1 (-X) else fadd (fadd (fadd (fadd (sm ((ties N).take i)) ea.1 ea.1 X) ea.1 eb.1 (-X)) eb.1 eb.1 X) eb.1 ea.1 (-X)) = g at pl hk1
     clear hfj tne hx
     walk_at "rd"
     refine ⟨_, SqT.of ht, rfl, _, _, rfl, _, _, rfl, rfl, ?_⟩
     walk_at "rd"
     obtain ⟨⟨kv0, q1, q2, q3, q4⟩, q5⟩ := pl
     refine ⟨.inr ⟨kv0, .inl q1⟩, by decide, fun kp nk => ?_⟩
     have S8 := Same.new nk (o := HO.tup [V.str a, V.str a])
     have hkp := ac_ (H := Hy) (a := kp) (o := HO.tup [V.str a, V.str a])
     generalize upd Hy kp (HO.tup [V.str a, V.str a]) = H8 at *
     have hb8 := (hb7.trans hb).trans (But.of S8)
     have g3 : ∀ x y v, valV kv0 [.inr x, .inr y] = some v → ∃ q, v = .ref q ∧ H q = none ∧ H8 q = some (.tup [.int (nf (g x y) (bN N)).1, .int (nf (g x y) (bN N)).2]) := fun x y v e => let ⟨q, z1, z2, z3⟩ := q3 x y v e; ⟨q, z1, z2, S8 _ _ z3⟩
     have q18 := S8 _ _ q1
     have dg := DGet.k (k := .inr kv.1) (hb8 _ _ wpd hwd3)
     rw [wval] at dg
     have sg := sm_of bp ble (show 4 * i + 2 * j + 0 ≤ 62 by omega) (q5 a a)
     refine ⟨_, DGet.t (k := [.inr a, .inr a]) q18 hkp, _, dg, _, _, nf (g a a) (bN N), wN N kv.1, rfl, mQ_ hN (by omega) g3 q4 a a, ⟨fa, rfl, SqT.of (hb8 _ _ fapd hfa3)⟩, Sm.of sg, Sm.ws wws, ?_, fun z H9 S9 nz hz => ⟨by decide, fun kp2 nk2 => ?_⟩⟩
     ·have z1 := sg.1.pos
      have z2 := wws.1.pos
      exact Int.mul_ne_zero (by omega) (by omega)
     have S10 := Same.new nk2 (o := HO.tup [V.str a, V.str a])
     have hkp2 := ac_ (H := H9) (a := kp2) (o := HO.tup [V.str a, V.str a])
     have hz10 := S10 _ _ hz
     have S810 := S9.trans S10
     generalize upd H9 kp2 (HO.tup [V.str a, V.str a]) = H10 at *
     have Hz : H z = none := by
      cases e : H z with
      | none => rfl
      | some o =>
       rw [hb8 _ _ (fun c => by rw [c, Hpd] at e; cases e) (s23 _ _ ((S1.trans S2) _ _ e))] at nz
       cases nz
     have hz11 : H10 z = some (.tup [.int (nf (g a a + X) (bN N)).1, .int (nf (g a a + X) (bN N)).2]) := by
      have e := (is_nf (t := g a a) (b := bN N) (by omega)).plusB wis
      rw [← e]
      exact hz10
     have pz := Pl.put (X := X) (a := a) (b := a) (S810 _ _ q18) q2 (fun x y v e => let ⟨q, z1, z2, z3⟩ := g3 x y v e; ⟨q, z1, z2, S810 _ _ z3⟩) q4 q5 wle hz11 Hz
     have b7 := ((hb.trans (But.of S8)).trans (But.of S810)).upd (o := HO.dT (putK kv0 [.inr a, .inr a] (.ref z)))
     have bz := (hb8.trans (But.of S810)).upd (o := HO.dT (putK kv0 [.inr a, .inr a] (.ref z)))
     refine ⟨_, DPut.t (k := [.inr a, .inr a]) (S810 _ _ q18) hkp2 (small1000 (by omega)), ?_⟩
     generalize upd H10 pd (HO.dT (putK kv0 [.inr a, .inr a] (.ref z))) = Hz at *
     clear q1 q2 q3 q4 q5 hz10 hz11 hz nz g3 hkp hkp2 dg sg nk nk2 q18 hb8
     clear S8 S9 S10 S810
     walk_at "rd"
     obtain ⟨⟨kv1, q1, q2, q3, q4⟩, q5⟩ := pz
     refine ⟨.inr ⟨kv1, .inl q1⟩, by decide, fun kp nk => ?_⟩
     have S8 := Same.new nk (o := HO.tup [V.str a, V.str b])
     have hkp := ac_ (H := Hz) (a := kp) (o := HO.tup [V.str a, V.str b])
     generalize upd Hz kp (HO.tup [V.str a, V.str b]) = H8 at *
     have hb8 := bz.trans (But.of S8)
     have g3 : ∀ x y v, valV kv1 [.inr x, .inr y] = some v → ∃ q, v = .ref q ∧ H q = none ∧ H8 q = some (.tup [.int (nf ((fadd g a a X) x y) (bN N)).1, .int (nf ((fadd g a a X) x y) (bN N)).2]) := fun x y v e => let ⟨q, z1, z2, z3⟩ := q3 x y v e; ⟨q, z1, z2, S8 _ _ z3⟩
     have q18 := S8 _ _ q1
     have dg := DGet.k (k := .inr kv.1) (hb8 _ _ wpd hwd3)
     rw [wval] at dg
     have sg := sm_of bp ble (show 4 * i + 2 * j + 1 ≤ 62 by omega) (q5 a b)
     refine ⟨_, DGet.t (k := [.inr a, .inr b]) q18 hkp, _, dg, _, _, nf ((fadd g a a X) a b) (bN N), wN N kv.1, rfl, mQ_ hN (by omega) g3 q4 a b, ⟨fa, rfl, SqT.of (hb8 _ _ fapd hfa3)⟩, Sm.of sg, Sm.ws wws, ?_, fun z H9 S9 nz hz => ⟨by decide, fun kp2 nk2 => ?_⟩⟩
     ·have z1 := sg.1.pos
      have z2 := wws.1.pos
      exact Int.mul_ne_zero (by omega) (by omega)
     have S10 := Same.new nk2 (o := HO.tup [V.str a, V.str b])
     have hkp2 := ac_ (H := H9) (a := kp2) (o := HO.tup [V.str a, V.str b])
     have hz10 := S10 _ _ hz
     have S810 := S9.trans S10
     generalize upd H9 kp2 (HO.tup [V.str a, V.str b]) = H10 at *
     have Hz : H z = none := by
      cases e : H z with
      | none => rfl
      | some o =>
       rw [hb8 _ _ (fun c => by rw [c, Hpd] at e; cases e) (s23 _ _ ((S1.trans S2) _ _ e))] at nz
       cases nz
     have hz11 : H10 z = some (.tup [.int (nf ((fadd g a a X) a b + (-X)) (bN N)).1, .int (nf ((fadd g a a X) a b + (-X)) (bN N)).2]) := by
      have e := (is_nf (t := (fadd g a a X) a b) (b := bN N) (by omega)).minusB wis
      rw [← Int.sub_eq_add_neg, ← e]
      exact hz10
     have pz := Pl.put (X := (-X)) (a := a) (b := b) (S810 _ _ q18) q2 (fun x y v e => let ⟨q, z1, z2, z3⟩ := g3 x y v e; ⟨q, z1, z2, S810 _ _ z3⟩) q4 q5 wneg hz11 Hz
     have b7' := ((b7.trans (But.of S8)).trans (But.of S810)).upd (o := HO.dT (putK kv1 [.inr a, .inr b] (.ref z)))
     refine ⟨_, DPut.t (k := [.inr a, .inr b]) (S810 _ _ q18) hkp2 (small1000 (by omega)), ?_⟩
     exact hk1 _ _ ⟨_, _, rfl, b7', pz⟩
    ·rintro σ Hy ⟨e5, e6, rfl, hb, pl⟩
     have e4 := four (sm ((ties N).take i)) ea.1 eb.1 X
     have e5' : (fun x y => sm ((ties N).take i) x y + cf x y (ea.1, eb.1, X)) = sm ((ties N).take (i + 1)) := by
      funext x y
      rw [et, jj_]
     rw [if_neg (by simp), if_neg (by simp), e4, e5'] at pl
     exact hk _ _ ⟨_, _, _, _, rfl, hb7.trans hb, pl⟩
   ·rintro σ Hx ⟨e3, e4, e5, e6, rfl, hb, pl⟩
    walk_at "rd"
    rw [len, List.take_of_length_le (by unfold ties; rw [List.length_map]; exact Nat.le_refl _)] at pl
    refine k pd Hx (fun b o e => hb _ _ (fun z => ?_) (s23 _ _ ((S1.trans S2) _ _ e))) (S1.free np) pl
    rw [z, S1.free np] at e
    cases e
variable {P : Program} {w : World} {K : PySem.W.Frag} {mg : Str → Option Value} {base : Heap} {CN : Addr}
abbrev s_points_of : Stmt := stN 21
theorem iS_ : FnScope ["net"] ["net"] (defScope s_points_of) := ⟨rfl, rfl, rfl, by decide +kernel, rfl, by decide +kernel, by decide +kernel⟩
theorem gT_ : LK s_points_of "net" .local := by decide +kernel
def sp_pts : Sp := fun vs H Q _ => ∃ (v : V) (N : Net Str), vs = [v] ∧ Rep H v (dNet N) ∧ NetOk N ∧ ∀ D H', Same H H' → H D = none → H' D = some (.lst ((N.rows.map (·.1)).map V.str)) → Q (.ref D) H'
theorem iT_ (T : Txt K mg) (F : Fn0 K mg "points_of" s_points_of) : Cal P w K mg base "points_of" ["net"] 1 sp_pts := by
 refine aJ_ F iS_ (fun _ _ _ _ _ _ us hl => match us, hl with | [_], _ => rfl) ?len ?body
 case len => rintro vs H Q E ⟨a, b, rfl, _⟩; rfl
 case body =>
  intro f cdv A outer s H vs Q E hr h
  obtain ⟨v, N, rfl, hv, ok, k⟩ := h
  obtain ⟨pn, p0, p1, p2, rs, ws, rfl, hn, h0, h1, r1, h2, r2⟩ := dK_ hv
  have rl : rs.length = N.rows.length := by rw [r1.length, List.length_map]
  have few := ok.few
  refine' ⟨_, ?D, ?R⟩
  case D =>
   refine' ae_ ?g1
   case' g1 => refine' aq_ ?g2
   case' g2 => refine' bY_ (N' := ["point", "wires"]) (ix := [none, none]) rfl rfl (bR_ ?g3) ?g4 (fun _ _ _ => ?g5) (fun _ _ _ => ?g6) (fun _ _ _ => (pv1 0 rfl rfl))
   case g3 => exact (by show scpB (defScope s_points_of) ["net"] _ _ _ = true; decide +kernel)
   case' g4 => refine' aK_ (K := K) rfl ?g8
   case' g8 => refine' pe_ix ao_ (pv1 0 rfl gT_) ab_ (fun _ _ => rfl)
   case' g5 => refine' bc_ (K := K) (n := 2) rfl rfl ?g11
   case' g11 => refine' ap_ ?g12 ?g13
   case g12 => exact ak_ (i := 0) (by show List.Nodup (["point", "wires"] : List Str); decide +kernel) rfl rfl
   case' g13 => refine' ap_ ?g14 ba_
   case g14 => exact ak_ (i := 1) (by show List.Nodup (["point", "wires"] : List Str); decide +kernel) rfl rfl
   case g6 => exact ct_
  case R =>
   walk_at "rd"
   refine ⟨_, hn, _, atI_1, p1, rfl, ⟨_, .inl (.inl h1)⟩, ?_⟩
   refine bL_ (n := N.rows.length) (B := fun _ => none) (Pσ := fun σ => ∃ e e', σ = [e, e']) (ds := (N.rows.map (·.1)).map dS) (fun b o e => by cases e) ⟨_, _, rfl⟩ (by simp) (by omega) (fun i H' hi s' => ⟨rs, rs[i]'(by omega), .inl (.inl (s' _ _ h1)), List.getElem?_eq_getElem _⟩) (fun H' s' => ⟨rs, .inl (.inl (s' _ _ h1)), by omega⟩) ?_ ?_
   ·rintro D i x d σ' H2 H2' hD hDo hs2 hi hdi ⟨rfl, hy⟩ ⟨e, e', rfl⟩ R kR
    have hx := hy _ (.inl (.inl (hs2 _ _ h1)))
    obtain ⟨r, q, l, hr1, rfl, hq, hl⟩ := eO_ r1 hx
    have hd : d = dS r.1 := by
     rw [List.getElem?_map, List.getElem?_map, hr1] at hdi
     exact (Option.some.inj hdi).symm
    walk_at "rd"
    refine ⟨_, SqT.of (hs2 _ _ hq), rfl, _, _, rfl, _, _, rfl, rfl, kR _ _ _ ⟨_, _, rfl⟩ (Same.refl _) ?_⟩
    rw [hd]
    exact rfl
   ·intro D H2 hD s2 rep2
    obtain ⟨_, us, e0, hu', hus⟩ := id rep2
    cases e0
    rw [gv_ hus] at hu'
    exact k D H2 s2 hD (aP_ hu').2
def wN0 (CN : Addr) (A : Hp) : Hp := upd A CN (.tup [.int 0, .int 1])
theorem dW_ (A A' : Hp) (s : Same A A') : Same (wN0 CN A) (wN0 CN A') := fun b o h => by
 unfold wN0 at h ⊢
 by_cases e : b = CN
 ·subst e
  rw [ac_] at h ⊢
  exact h
 ·rw [af_ e] at h ⊢
  exact s _ _ h
theorem he_ {A : Hp} {b : Addr} (h : b ≠ CN) : wN0 CN A b = A b := af_ h
theorem eT_ {A : Hp} : wN0 CN A CN = some (.tup [.int 0, .int 1]) := ac_
theorem jB_ {A : Hp} (h : A CN = none) : Same A (wN0 CN A) := Same.new h
theorem iU_ {H : Hp} (hN : Nt K mg CN) : VG K H (wN0 CN H) := by
 refine ⟨fun q xs e => ?_, fun q xs e => ?_⟩
 ·by_cases h : q = CN
  ·rw [h, eT_] at e
   cases e
   rw [h]
   exact hN.sq H
  ·rw [he_ h] at e
   exact SqT.of e
 ·by_cases h : q = CN
  ·rw [h, eT_] at e
   cases e
  ·rw [he_ h] at e
   exact e
abbrev s_pull_grid : Stmt := stN 23
theorem iV_ : FnScope ["pulls", "points", "others"] ["pulls", "points", "others"] (defScope s_pull_grid) := ⟨rfl, rfl, rfl, by decide +kernel, rfl, by decide +kernel, by decide +kernel⟩
theorem gU_ : LK s_pull_grid "points" .local := by decide +kernel
def sp_pg (K : PySem.W.Frag) (CN : Addr) : Sp := fun vs H Q _ => ∃ (B : Hp) (d : Addr) (f : Str → Str → Int) (Bt : Int) (n : Nat) (pv ov : Addr) (ps os : List Str), vs = [.ref d, .ref pv, .ref ov] ∧ Same B H ∧ Pl B H d f Bt n ∧ Bt ≠ 0 ∧ H pv = some (.lst (ps.map V.str)) ∧ H ov = some (.lst (os.map V.str)) ∧ ps.length ≤ 16 ∧ os.length ≤ 16 ∧
 ∀ D H', Same H H' → NX K H' → Rep (wN0 CN (newH B H')) (.ref D) (dG (ps.map fun x => os.map fun y => nf (f x y) Bt)) → Q (.ref D) H'
theorem iW_ (T : Txt K mg) (hN : Nt K mg CN) (F : Fn0 K mg "pull_grid" s_pull_grid) : Cal P w K mg base "pull_grid" ["pulls", "points", "others"] 1 (sp_pg K CN) := by
 refine aJ_ F iV_ (fun _ _ _ _ _ _ us hl => match us, hl with | [_, _, _], _ => rfl) ?len ?body
 case len => rintro vs H Q E ⟨a, b, c, d, e, f, g, h, i, rfl, _⟩; rfl
 case body =>
  intro f cdv A outer s H vs Q E hr h
  obtain ⟨B, d, f, Bt, n, pv, ov, ps, os, rfl, sB, pl, b0, hp, ho, p16, o16, k⟩ := h
  obtain ⟨oN, lkN⟩ := hN.lk
  obtain ⟨⟨kvs, q1, q2, q3, q4⟩, q5⟩ := pl
  refine' ⟨_, ?D, ?R⟩
  case D =>
   refine' ae_ ?g1
   case' g1 => refine' aq_ ?g2
   case' g2 => refine' c2_ (K := K) rfl ?g3
   case' g3 => refine' bY_ (N' := ["point", "others", "pulls"]) (ix := [none, some 2, some 0]) rfl rfl (bR_ ?g4) ?g5 (fun _ _ _ => ?g6) (fun _ _ _ => ?g7) (fun _ _ _ => ?g8)
   case g4 => exact (by show scpB (defScope s_pull_grid) ["pulls", "points", "others"] _ _ _ = true; decide +kernel)
   case' g5 => refine' aK_ (K := K) rfl (pv1 1 rfl gU_)
   case g6 => exact ez_ (i := 0) (by show List.Nodup (["point", "others", "pulls"] : List Str); decide +kernel) rfl rfl rfl
   case g7 => exact ct_
   case' g8 => refine' c2_ (K := K) rfl ?g10
   case' g10 => refine' bY_ (N' := ["other", "pulls", "point"]) (ix := [none, some 2, some 0]) rfl rfl (bR_ ?g11) ?g12 (fun _ _ _ => ?g13) (fun _ _ _ => ?g14) (fun _ _ _ => ?g15)
   case g11 => exact (by show scpB (relS _ (defScope s_pull_grid)) ["point", "others", "pulls"] _ _ _ = true; decide +kernel)
   case' g12 => refine' aK_ (K := K) rfl (pvc 1 rfl rfl)
   case g13 => exact ak_ (i := 0) (by show List.Nodup (["other", "pulls", "point"] : List Str); decide +kernel) rfl rfl
   case g14 => exact ct_
   case' g15 => refine' hz_ (un1 hr.units) (pvc 1 rfl rfl) ?g18 ?g19 ⟨rfl, rfl, rfl, rfl⟩
   case' g18 => refine' aH_ ?g20
   case' g20 => refine' pa_c (pvc 2 rfl rfl) ?g22
   case' g22 => refine' pa_c (pv1 0 rfl rfl) aa_
   case' g19 => refine' c2_ (K := K) rfl ?g25
   case g25 => exact gi_ hN.m rfl
  case R =>
   walk_at "rd"
   refine ⟨⟨_, .inl (.inl hp)⟩, ?_⟩
   refine ix_ (wN0 CN) dW_ (n := ps.length) (B := B) (Pσ := fun σ => ∃ e, σ = [e, some (.ref ov), some (.ref d)]) (ds := (ps.map fun x => os.map fun y => nf (f x y) Bt).map dRow) sB ⟨_, rfl⟩ (by simp) (by omega) (fun i H' hi s' => ⟨_, .str ps[i], .inl (.inl (s' _ _ hp)), by simp [hi]⟩) (fun H' s' => ⟨_, .inl (.inl (s' _ _ hp)), by simp⟩) ?_ ?_
   ·rintro D i x dd σ' H2 H2' hD ⟨oD, hDo⟩ hs2 hi hdi ⟨rfl, hy⟩ ⟨e, rfl⟩ R kR
    have hx := hy _ (.inl (.inl (hs2 _ _ hp)))
    rw [List.getElem?_map, List.getElem?_eq_getElem hi] at hx
    cases hx
    have hd : dd = dRow (os.map fun y => nf (f ps[i] y) Bt) := by
     rw [List.getElem?_map, List.getElem?_map, List.getElem?_eq_getElem hi] at hdi
     exact (Option.some.inj hdi).symm
    have ho2 := hs2 _ _ ho
    have BD : B D = none := sB.free hD
    have sB2 : Same (upd B D oD) H2' := fun b o h => by
     by_cases e : b = D
     ·subst e
      rw [ac_] at h
      cases h
      exact hDo
     ·rw [af_ e] at h
      exact hs2 _ _ (sB _ _ h)
    walk_at "rd"
    refine ⟨⟨_, .inl (.inl ho2)⟩, ?_⟩
    refine ix_ (wN0 CN) dW_ (n := os.length) (B := upd B D oD) (Pσ := fun σ => ∃ e, σ = [e, some (.ref d), some (.str ps[i])]) (ds := (os.map fun y => nf (f ps[i] y) Bt).map dF) sB2 ⟨_, rfl⟩ (by simp) (by omega) (fun j H' hj s' => ⟨_, .str os[j], .inl (.inl (s' _ _ ho2)), by simp [hj]⟩) (fun H' s' => ⟨_, .inl (.inl (s' _ _ ho2)), by simp⟩) ?_ ?_
    ·rintro D2 j x dd2 σ' H3 H3' hD2 hDo2 hs3 hj hdj ⟨rfl, hy⟩ ⟨e, rfl⟩ R2 kR2
     have hx := hy _ (.inl (.inl (hs3 _ _ ho2)))
     rw [List.getElem?_map, List.getElem?_eq_getElem hj] at hx
     cases hx
     have hd2 : dd2 = dF (nf (f ps[i] os[j]) Bt) := by
      rw [List.getElem?_map, List.getElem?_map, List.getElem?_eq_getElem hj] at hdj
      exact (Option.some.inj hdj).symm
     have s23 := hs2.trans hs3
     walk_at "rd"
     refine ⟨.inr ⟨kvs, .inl (s23 _ _ q1)⟩, by decide, fun kp nk nx => ?_⟩
     have S8 := Same.new nk (o := HO.tup [V.str ps[i], V.str os[j]])
     have hkp := ac_ (H := H3') (a := kp) (o := HO.tup [V.str ps[i], V.str os[j]])
     generalize upd H3' kp (HO.tup [V.str ps[i], V.str os[j]]) = H8 at *
     refine ⟨_, DGet.t (k := [.inr ps[i], .inr os[j]]) (S8 _ _ (s23 _ _ q1)) hkp, kR2 _ _ _ ⟨_, rfl⟩ S8 ?_⟩
     rw [hd2]
     cases e9 : valV kvs [.inr ps[i], .inr os[j]] with
     | none =>
      rw [q4 _ _ e9, hG_ b0]
      exact ⟨CN, _, rfl, eT_, _, _, rfl, rfl, _, _, rfl, rfl, rfl⟩
     | some v =>
      obtain ⟨q, z1, z2, z3⟩ := q3 _ _ _ e9
      have q8 := S8 _ _ (s23 _ _ z3)
      have qC : q ≠ CN := fun c => by
       rw [c, nx _ _ lkN] at q8
       cases q8
      have qD : q ≠ D := fun c => by
       rw [c, hD] at z3
       cases z3
      have qD2 : q ≠ D2 := fun c => by
       rw [c, hs2.free hD2] at z3
       cases z3
      subst z1
      refine ⟨q, _, rfl, ?_, _, _, rfl, rfl, _, _, rfl, rfl, rfl⟩
      rw [he_ qC, bw_ qD2 (by rw [af_ qD]; exact z2)]
      exact q8
    ·intro D2 H3 ys hD2 s3 hDD2 rep3 nx3
     have dC : D2 ≠ CN := fun c => by
      rw [c, nx3 _ _ lkN] at hDD2
      cases hDD2
     have dD : D2 ≠ D := fun c => by
      rw [c, hDo] at hD2
      cases hD2
     refine kR _ _ _ ⟨_, rfl⟩ s3 ?_
     rw [hd]
     refine ⟨D2, ys, rfl, ?_, Reps.mono (dW_ _ _ fun b o h => ?_) _ rep3⟩
     ·rw [he_ dC, bw_ dD (by have z := sB2.free hD2; rw [af_ dD] at z; exact z)]
      exact hDD2
     ·obtain ⟨h1, h2, h3⟩ := cY_ h
      have bD : b ≠ D := fun c => by
       rw [c, ac_] at h2
       cases h2
      rw [af_ bD] at h2
      rw [bw_ bD h2]
      exact h3
   ·intro D H2 ys hD s2 hDD rep2 nx2
    have dC : D ≠ CN := fun c => by
     rw [c, nx2 _ _ lkN] at hDD
     cases hDD
    refine k D H2 s2 nx2 ⟨D, ys, rfl, ?_, Reps.mono (dW_ _ _ jO_) _ rep2⟩
    rw [he_ dC, bZ_ (sB.free hD)]
    exact hDD
abbrev s_whole_table : Stmt := stN 25
theorem d6_ : FnScope ["net", "points"] ["net"] (defScope s_whole_table) := ⟨rfl, rfl, rfl, by decide +kernel, rfl, by decide +kernel, by decide +kernel⟩
theorem ds_ : LK s_whole_table "net" .local := by decide +kernel
theorem b1_ : LK s_whole_table "points" .local := by decide +kernel
theorem cS_ : LK s_whole_table "points_of" .globalImplicit := by decide +kernel
theorem cT_ : LK s_whole_table "pull_grid" .globalImplicit := by decide +kernel
theorem dl_ : LK s_whole_table "pulls_of" .globalImplicit := by decide +kernel
def tbl (N : Net Str) : List (List (Int × Int)) := (N.rows.map (·.1)).map fun x => (N.rows.map (·.1)).map fun y => nf (sm (ties N) x y) (bN N)
def sp_wt (K : PySem.W.Frag) (CN : Addr) : Sp := fun vs H Q _ => ∃ (v : V) (N : Net Str), vs = [v] ∧ Rep H v (dNet N) ∧ NetOk N ∧ WOk N ∧ ∀ D H', Same H H' → NX K H' → Rep (wN0 CN (newH H H')) (.ref D) (dG (tbl N)) → Q (.ref D) H'
theorem gV_ (T : Txt K mg) (F : Fn0 K mg "whole_table" s_whole_table) (C_points_of : Cal P w K mg base "points_of" ["net"] 1 sp_pts) (C_pulls_of : Cal P w K mg base "pulls_of" ["net"] 4 sp_pulls) (C_pull_grid : Cal P w K mg base "pull_grid" ["pulls", "points", "others"] 1 (sp_pg K CN)) : Cal P w K mg base "whole_table" ["net"] 5 (sp_wt K CN) := by
 refine aJ_ F d6_ (fun _ _ _ _ _ _ us hl => match us, hl with | [_], _ => rfl) ?len ?body
 case len => rintro vs H Q E ⟨a, b, rfl, _⟩; rfl
 case body =>
  intro f cdv A outer s H vs Q E hr h
  obtain ⟨v, N, rfl, hv, ok, wo, k⟩ := h
  have few := ok.few
  refine' ⟨_, ?D, ?R⟩
  case D =>
   refine' ad_ ?g1 ?g2
   case' g1 => refine' ai_ (i := 1) d6_.nd rfl b1_ ?g3
   case' g3 => refine' aj_ C_points_of (hr.mono (by decide)) cS_ ?g4
   case' g4 => refine' pa_c (pv1 0 rfl ds_) aa_
   case' g2 => refine' ae_ ?g7
   case' g7 => refine' aq_ ?g8
   case' g8 => refine' aj_ C_pull_grid (hr.mono (by decide)) cT_ ?g9
   case' g9 => refine' pa_c ?g10 ?g11
   case' g10 => refine' aj_ C_pulls_of (hr.mono (by decide)) dl_ ?g12
   case' g12 => refine' pa_c (pv1 0 rfl ds_) aa_
   case' g11 => refine' pa_c (pv1 1 rfl b1_) ?g16
   case' g16 => refine' pa_c (pv1 1 rfl b1_) aa_
  case R =>
   walk_at "rd"
   refine ⟨v, N, rfl, hv, ok, fun D1 H1 s1 n1 h1 => ?_⟩
   try walk_at "rd"
   refine ⟨v, N, rfl, Rep.mono s1 _ hv, ok, wo, fun d H2 s2 n2 pl => ?_⟩
   have h12 := s2 _ _ h1
   refine ⟨H, d, _, _, 4 * (endsN N).length, D1, D1, _, _, rfl, s1.trans s2, ?_, ?_, h12, h12, by rw [List.length_map]; exact few, by rw [List.length_map]; exact few, fun D H3 s3 nx rep => k D H3 (s1.trans (s2.trans s3)) nx rep⟩
   ·obtain ⟨⟨kvs, q1, q2, q3, q4⟩, q5⟩ := pl
    exact ⟨⟨kvs, q1, q2, fun x y v e => let ⟨q, z1, z2, z3⟩ := q3 x y v e; ⟨q, z1, s1.free z2, z3⟩, q4⟩, q5⟩
   ·have := (hd_ ok wo).1
    omega
structure Exs (K : PySem.W.Frag) (mg : Str → Option Value) (CR CA CO CW : Addr) : Prop where
 m_RimError : mg "RimError" = some (.ref CR)
 m_NoAnswer : mg "NoAnswer" = some (.ref CA)
 m_NoNet : mg "NoNet" = some (.ref CO)
 m_NoWorth : mg "NoWorth" = some (.ref CW)
 own_NoAnswer : ExC K CA
 hnd_RimError : HnC K CR
 sub : PySem.W.mroIn K CA (.ref CR) = some true
 kit : KitE K CA
 isA : PySem.W.kitOne K (.ref CA) (.ref CA) = some true
 isV : PySem.W.kitOne K (.ref CA) (.type "ValueError") = some true
 isN : PySem.W.kitAny K (.ref CA) [.ref CO, .ref CW] = some false
variable {CR CA CO CW : Addr}
theorem jC_ {X : Cx} {x : Str} {C : Addr} {pos : Pos} (hg : Gl X x) (hm : X.mg x = some (.ref C)) (hd : (x == ("__debug__" : Str)) = false := by decide) : PE X (.Name x pos) (tC (.ref C)) := i6_ (v := .ref C) hg hm rfl hd
def ge (g : List (List (Int × Int))) (i j : Nat) : Int × Int := (g.getD i []).getD j (0, 1)
def othrs (n k : Nat) : List Nat := (List.range n).filter fun i => decide (i ≠ k)
def tkn (g : List (List (Int × Int))) (k : Nat) : List (List (Int × Int)) := (othrs g.length k).map fun i => (othrs g.length k).map fun j => fmin (ge g i j) (fmul (fovr (ge g i k) (ge g k k)) (ge g k j))
structure Gd (n : Nat) (g : List (List (Int × Int))) : Prop where
 len : g.length = n
 n16 : n ≤ 16
 row : ∀ r ∈ g, r.length = n
 ent : ∀ i j, i < n → j < n → Low (ge g i j) ∧ Builtin.Int.intBits (ge g i j).1 ≤ 200 ∧ Builtin.Int.intBits (ge g i j).2 ≤ 200
theorem kc_ {H J : Hp} {v : V} {g : List (List (Int × Int))} {n : Nat} (hJ : VG K H J) (hv : Rep J v (dG g)) (gl : g.length = n) (gr : ∀ r ∈ g, r.length = n) : ∃ p xs, v = .ref p ∧ H p = some (.lst xs) ∧ xs.length = n ∧ ∀ i, i < n → ∃ q ys, atI xs (i : Int) = some (.ref q) ∧ H q = some (.lst ys) ∧ ∀ j, j < n → ∃ u, atI ys (j : Int) = some u ∧ FQ K H u (ge g i j) ∧ Rep J u (dF (ge g i j)) := by
 obtain ⟨p, xs, rfl, hp, hxs⟩ := hv
 have xl : xs.length = n := by rw [hxs.length, List.length_map, gl]
 refine ⟨p, xs, rfl, hJ.2 _ _ hp, xl, fun i hi => ?_⟩
 have hx : xs[i]? = some (xs[i]'(by omega)) := List.getElem?_eq_getElem _
 obtain ⟨q, ys, r, hr, ex, hq, hys⟩ := eR_ hxs hx
 have rl := gr r (List.mem_of_getElem? hr)
 have yl : ys.length = n := by rw [hys.length, List.length_map, rl]
 refine ⟨q, ys, b8_ (by omega) (by rw [Int.toNat_natCast, hx, ex]), hJ.2 _ _ hq, fun j hj => ?_⟩
 have hy : ys[j]? = some (ys[j]'(by omega)) := List.getElem?_eq_getElem _
 obtain ⟨u, z, hz, eu, hu⟩ := lB_ hys hy
 have e : ge g i j = z := by
  unfold ge
  rw [List.getD_eq_getElem?_getD, List.getD_eq_getElem?_getD, hr]
  show (r[j]?).getD (0, 1) = z
  rw [hz]
  rfl
 rw [e]
 exact ⟨.ref u, b8_ (by omega) (by rw [Int.toNat_natCast, hy, eu]), ⟨u, rfl, hJ.1 _ _ hu⟩, u, _, rfl, hu, _, _, rfl, rfl, _, _, rfl, rfl, rfl⟩
theorem hP_ {H J : Hp} {v : V} {g : List (List (Int × Int))} {n : Nat} (hJ : VG K H J) (hv : Rep J v (dG g)) (hg : Gd n g) : ∃ p xs, v = .ref p ∧ H p = some (.lst xs) ∧ xs.length = n ∧ ∀ i, i < n → ∃ q ys, atI xs (i : Int) = some (.ref q) ∧ H q = some (.lst ys) ∧ ∀ j, j < n → ∃ u, atI ys (j : Int) = some u ∧ FQ K H u (ge g i j) ∧ Rep J u (dF (ge g i j)) := kc_ hJ hv hg.len hg.row
theorem cU_ {n k i : Nat} : i ∈ othrs n k ↔ i < n ∧ i ≠ k := by
 unfold othrs
 rw [List.mem_filter, List.mem_range, decide_eq_true_eq]
theorem kd_ (n k : Nat) : (othrs n k).length ≤ n := by
 have := List.length_filter_le (fun i => decide (i ≠ k)) (List.range n)
 rwa [List.length_range] at this
theorem ke_ (p q : Int × Int) : deq (dF p) (dF q) = some (decide (p = q)) := by
 obtain ⟨a, b⟩ := p
 obtain ⟨c, d⟩ := q
 simp only [dF, deq, deqs, Prod.mk.injEq]
 by_cases h1 : a = c <;> by_cases h2 : b = d <;> simp [h1, h2]
theorem jD_ {t b : Int} {n m : Nat} (hb : b ≠ 0) (h1 : Builtin.Int.intBits t ≤ n) (h2 : Builtin.Int.intBits b ≤ m) : Builtin.Int.intBits (nf t b).1 ≤ n ∧ Builtin.Int.intBits (nf t b).2 ≤ m := by
 have ha := gn_ (t := t) hb
 exact ⟨PyProof.Rows.bits_of_natAbs_le ha.1 h1, PyProof.Rows.bits_of_natAbs_le ha.2 h2⟩
theorem lI_ {p : Int × Int} (h : Low p) (hn : p ≠ (0, 1)) : p.1 ≠ 0 := fun e => hn ((eD_ h).zero.mpr e)
theorem iX_ {p q : Int × Int} {n : Nat} (hp : Low p) (h0 : q.1 ≠ 0) (p1 : Builtin.Int.intBits p.1 ≤ n) (p2 : Builtin.Int.intBits p.2 ≤ n) (q1 : Builtin.Int.intBits q.1 ≤ n) (q2 : Builtin.Int.intBits q.2 ≤ n) : Builtin.Int.intBits (fovr p q).1 ≤ n + n ∧ Builtin.Int.intBits (fovr p q).2 ≤ n + n :=
 jD_ (Int.mul_ne_zero (by have := hp.pos; omega) h0) (PyProof.Rows.bits_mul p1 q2) (PyProof.Rows.bits_mul p2 q1)
theorem iY_ {p q : Int × Int} {n m : Nat} (hp : Low p) (hq : Low q) (p1 : Builtin.Int.intBits p.1 ≤ n) (p2 : Builtin.Int.intBits p.2 ≤ n) (q1 : Builtin.Int.intBits q.1 ≤ m) (q2 : Builtin.Int.intBits q.2 ≤ m) : Builtin.Int.intBits (fmul p q).1 ≤ n + m ∧ Builtin.Int.intBits (fmul p q).2 ≤ n + m :=
 jD_ (Int.mul_ne_zero (by have := hp.pos; omega) (by have := hq.pos; omega)) (PyProof.Rows.bits_mul p1 q1) (PyProof.Rows.bits_mul p2 q2)
theorem iZ_ {p q : Int × Int} {n m : Nat} (hp : Low p) (hq : Low q) (p1 : Builtin.Int.intBits p.1 ≤ n) (p2 : Builtin.Int.intBits p.2 ≤ n) (q1 : Builtin.Int.intBits q.1 ≤ m) (q2 : Builtin.Int.intBits q.2 ≤ m) : Builtin.Int.intBits (fmin p q).1 ≤ n + m + 1 ∧ Builtin.Int.intBits (fmin p q).2 ≤ n + m + 1 := by
 have h := jD_ (Int.mul_ne_zero (a := p.2) (b := q.2) (by have := hp.pos; omega) (by have := hq.pos; omega)) (eQ_ (PyProof.Rows.bits_mul p1 q2) (by rw [Nat.add_comm n m]; exact PyProof.Rows.bits_mul q1 p2)) (PyProof.Rows.bits_mul p2 q2)
 exact ⟨h.1, Nat.le_succ_of_le h.2⟩
theorem Sm.mk' {p : Int × Int} {n : Nat} (h : Low p) (b : Builtin.Int.intBits p.1 ≤ n ∧ Builtin.Int.intBits p.2 ≤ n) (hn : n ≤ 1500) : Sm p := ⟨h, by omega, by omega⟩
theorem mulP {p q : Int × Int} (hp : Low p) (hq : Low q) : p.2 * q.2 ≠ 0 := Int.mul_ne_zero (by have := hp.pos; omega) (by have := hq.pos; omega)
abbrev s_taken_out : Stmt := stN 26
theorem bu_ : FnScope ["grid", "k", "others", "left", "i", "share"] ["grid", "k"] (defScope s_taken_out) := ⟨rfl, rfl, rfl, by decide +kernel, rfl, by decide +kernel, by decide +kernel⟩
theorem bk_ : LK s_taken_out "grid" .cell := by decide +kernel
theorem aZ_ : LK s_taken_out "k" .cell := by decide +kernel
theorem cE_ : LK s_taken_out "others" .local := by decide +kernel
theorem cF_ : LK s_taken_out "left" .local := by decide +kernel
theorem d7_ : LK s_taken_out "i" .cell := by decide +kernel
theorem gW_ : LK s_taken_out "share" .cell := by decide +kernel
theorem cj_ : LK s_taken_out "NOUGHT" .globalImplicit := by decide +kernel
theorem dO_ : LK s_taken_out "NoAnswer" .globalImplicit := by decide +kernel
theorem fM_ : LK s_taken_out "len" .globalImplicit := by decide +kernel
theorem fp_ : LK s_taken_out "over" .globalImplicit := by decide +kernel
theorem eU_ : LK s_taken_out "range" .globalImplicit := by decide +kernel
def sp_to (K : PySem.W.Frag) (CN : Addr) : Sp := fun vs H Q _ => ∃ (J : Hp) (v : V) (g : List (List (Int × Int))) (n k : Nat), vs = [v, .int k] ∧ VG K H J ∧ J CN = some (.tup [.int 0, .int 1]) ∧ Rep J v (dG g) ∧ Gd n g ∧ k < n ∧ ge g k k ≠ (0, 1) ∧ ∀ D H', Same H H' → Rep (newH H H') (.ref D) (dG (tkn g k)) → Q (.ref D) H'
theorem i0_ (T : Txt K mg) (hN : Nt K mg CN) (EX : Exs K mg CR CA CO CW) (F : Fn0 K mg "taken_out" s_taken_out) (C_over : Cal P w K mg base "over" ["one", "other"] 3 (sp_two K (fun p q => p.1 * q.2) (fun p q => p.2 * q.1))) (C_times : Cal P w K mg base "times" ["one", "other"] 3 (sp_two K (fun p q => p.1 * q.1) (fun p q => p.2 * q.2))) (C_minus : Cal P w K mg base "minus" ["one", "other"] 3 (sp_two K (fun p q => p.1 * q.2 - q.1 * p.2) (fun p q => p.2 * q.2))) : Cal P w K mg base "taken_out" ["grid", "k"] 4 (sp_to K CN) := by
 refine aJ_ F bu_ (fun _ _ _ _ _ _ us hl => match us, hl with | [_, _], _ => rfl) ?len ?body
 case len => rintro vs H Q E ⟨a, b, c, d, e, rfl, _⟩; rfl
 case body =>
  intro f cdv A outer s H vs Q E hr h
  obtain ⟨J, v, g, n, kk, rfl, hJ, hJN, hv, hg, hk, hne, k⟩ := h
  obtain ⟨p, xs, rfl, hp, xl, hat⟩ := hP_ hJ hv hg
  have gl := hg.len
  have n16 := hg.n16
  refine' ⟨_, ?D, ?R⟩
  case D =>
   refine' an_ ?g1 ?g2
   case' g1 => refine' ps_if ?g3 ?g4 aL_
   case' g3 => refine' az_ (ig_ rfl (hr.units)) ?g6 ?g7 (nomark _)
   case' g6 => refine' pe_ix ah_ ?g8 (pvc 1 rfl aZ_) (fun _ _ => rfl)
   case' g8 => refine' pe_ix ah_ (pvc 0 rfl bk_) (pvc 1 rfl aZ_) (fun _ _ => rfl)
   case g7 => exact gi_ hN.m cj_
   case' g4 => refine' ae_ ?g12
   case g12 => exact jH_
   case' g2 => refine' an_ ?g13 ?g14
   case' g13 => refine' f5_ (i := 2) (N' := ["i", "k"]) (ix := [none, some 1]) rfl rfl bu_.nd rfl cE_ rfl (bR_ ?g15) ?g16 (fun _ _ _ => ?g17) (fun _ _ _ => ?g18) (fun _ _ _ => (pv1 0 rfl rfl))
   case g15 => exact (by show scpB (defScope s_taken_out) ["grid", "k", "others", "left", "i", "share"] _ _ _ = true; decide +kernel)
   case' g16 => refine' aS_ eU_ T.n_range ?g20
   case' g20 => refine' pa_c ?g21 aa_
   case' g21 => refine' al_ am_ fM_ T.n_len aQ_ ?g23
   case' g23 => refine' pa_c (pvc 0 rfl bk_) aa_
   case g17 => exact ak_ (i := 0) (by show List.Nodup (["i", "k"] : List Str); decide +kernel) rfl rfl
   case' g18 => refine' k6_ ?g26
   case' g26 => refine' az_ op_ne (pv1 0 rfl rfl) (pvc 1 rfl rfl) (nomark _)
   case' g14 => refine' an_ ?g29 ?g30
   case' g29 => refine' ai_ (i := 3) bu_.nd rfl cF_ ?g31
   case' g31 => refine' cG_ aa_
   case' g30 => refine' ad_ ?g33 ?g34
   case' g33 => refine' bg_ PassesOwn.never rfl ?g35 ?g36 ?g37
   case' g35 => refine' aK_ (K := K) rfl (pv1 2 rfl cE_)
   case g36 => exact ez_ (i := 4) bu_.nd rfl d7_ rfl
   case' g37 => refine' an_ ?g39 ?g40
   case' g39 => refine' e6_ (i := 5) bu_.nd rfl gW_ rfl ?g41 rfl
   case' g41 => refine' aj_ C_over (hr.mono (by decide)) fp_ ?g42
   case' g42 => refine' pa_c ?g43 ?g44
   case' g43 => refine' pe_ix ah_ ?g45 (pvc 1 rfl aZ_) (fun _ _ => rfl)
   case' g45 => refine' pe_ix ah_ (pvc 0 rfl bk_) (pvc 4 rfl d7_) (fun _ _ => rfl)
   case' g44 => refine' pa_c ?g49 aa_
   case' g49 => refine' pe_ix ah_ ?g51 (pvc 1 rfl aZ_) (fun _ _ => rfl)
   case' g51 => refine' pe_ix ah_ (pvc 0 rfl bk_) (pvc 1 rfl aZ_) (fun _ _ => rfl)
   case' g40 => refine' ae_ ?g55
   case' g55 => refine' bv_ ?g56
   case' g56 => refine' pe_bm PySem.F.plainAttrs_list PySem.F.slot_list_append PySem.F.type_list_append bi_ (pv1 3 rfl cF_) ?g58
   case' g58 => refine' pa_c ?g59 aa_
   case' g59 => refine' bY_ (N' := ["j", "grid", "i", "share", "k"]) (ix := [none, some 0, some 4, some 5, some 1]) rfl rfl (bR_ ?g61) ?g62 (fun _ _ _ => ?g63) (fun _ _ _ => ?g64) (fun _ _ _ => ?g65)
   case g61 => exact (by show scpB (defScope s_taken_out) ["grid", "k", "others", "left", "i", "share"] _ _ _ = true; decide +kernel)
   case' g62 => refine' aK_ (K := K) rfl (pv1 2 rfl cE_)
   case g63 => exact ak_ (i := 0) (by show List.Nodup (["j", "grid", "i", "share", "k"] : List Str); decide +kernel) rfl rfl
   case g64 => exact ct_
   case' g65 => refine' aj_ C_minus (hr.mono (by decide)) rfl ?g67
   case' g67 => refine' pa_c ?g68 ?g69
   case' g68 => refine' pe_ix ah_ ?g70 (pv1 0 rfl rfl) (fun _ _ => rfl)
   case' g70 => refine' pe_ix ah_ (pvc 1 rfl rfl) (pvc 2 rfl rfl) (fun _ _ => rfl)
   case' g69 => refine' pa_c ?g74 aa_
   case' g74 => refine' aj_ C_times (hr.mono (by decide)) rfl ?g76
   case' g76 => refine' pa_c (pvc 3 rfl rfl) ?g78
   case' g78 => refine' pa_c ?g79 aa_
   case' g79 => refine' pe_ix ah_ ?g81 (pv1 0 rfl rfl) (fun _ _ => rfl)
   case' g81 => refine' pe_ix ah_ (pvc 1 rfl rfl) (pvc 4 rfl rfl) (fun _ _ => rfl)
   case' g34 => refine' ae_ ?g85
   case' g85 => refine' aq_ (pv1 3 rfl cF_)
  case R =>
   walk_at "rd"
   obtain ⟨q, ys, a1, hq, hrow⟩ := hat kk hk
   obtain ⟨u, a2, fq, ru⟩ := hrow kk hk
   obtain ⟨ua, rfl, squ⟩ := id fq
   refine ⟨xs, hp, _, a1, q, rfl, ys, hq, _, a2, J, hJ.vw, ua, rfl, _, ru, dF (0, 1), ⟨CN, _, rfl, hJN, _, _, rfl, rfl, _, _, rfl, rfl, rfl⟩, _, ke_ _ _, by simp [dep, deps, dF], ?_⟩
   rw [decide_eq_false hne, if_neg (by decide)]
   walk_at "rd"
   refine ⟨xs, .inl hp, by omega, by omega, ?_⟩
   rw [xl, Int.toNat_natCast]
   refine jP_ (n := n) (Pσ := fun σ => ∃ e, σ = [e, some (V.int kk)]) (bs := fun i => decide (i ≠ kk)) (val := fun i => V.int i) ⟨_, rfl⟩ (by omega) (fun i H' hi s' => hi) (fun H' s' => Nat.le_refl _) ?_ ?_
   ·rintro D i x σ' H1 H1' hD hDo s1 hi ⟨rfl, rfl⟩ ⟨e, rfl⟩ Y R kY kR
    walk_at "rd"
    rw [Int.zero_add]
    exact ite2 (fun h => kY (decide_eq_true (show i ≠ kk by omega)) _ _ ⟨_, rfl⟩ (Same.refl _)) fun h => kR (decide_eq_false (by omega)) _ _ ⟨_, rfl⟩ (Same.refl _)
   ·intro D0 H1 hD0 s1 hD1
    have hD1' : H1 D0 = some (.lst ((othrs n kk).map fun i : Nat => V.int i)) := hD1
    walk_at "rd"
    refine ⟨Nat.zero_le _, fun L nL => ?_⟩
    have S2 := Same.new nL (o := HO.lst [])
    have hL := ac_ (H := H1) (a := L) (o := HO.lst [])
    generalize upd H1 L (HO.lst []) = H2 at *
    walk_at "rd"
    have ol := kd_ n kk
    have hD2 := S2 _ _ hD1'
    refine ⟨⟨_, .inl (.inl hD2)⟩, dT_ (xs := (othrs n kk).map fun i : Nat => V.int i) (fun m σ Hx => ∃ (e4 e5 : Option V) (S : Hp) (rs : List V), σ = [some (.ref p), some (.int kk), some (.ref D0), some (.ref L), e4, e5] ∧ Same H1 S ∧ Same S Hx ∧ S L = none ∧ Hx L = some (.lst rs) ∧ Reps (newH H S) rs (((tkn g kk).take m).map dRow) ∧ rs.length = m) ⟨_, _, H1, [], rfl, Same.refl _, S2, nL, hL, rfl, rfl⟩ ?_ ?_ ?_⟩
    ·rintro m σ Hx hm ⟨e4, e5, S, rs, rfl, sS, sH, SL, hLx, rep, rl⟩
     exact .inl (.inl (sH _ _ (sS _ _ hD1')))
    ·rintro m x σ Hx hx kk1 kb1 hk1 hb1 G1 hG1 ⟨e4, e5, S, rs, rfl, sS, sH, SL, hLx, rep, rl⟩
     obtain ⟨i, hi, rfl⟩ : ∃ i : Nat, (othrs n kk)[m]? = some i ∧ x = .int i := by
      rw [List.getElem?_map] at hx
      cases e : (othrs n kk)[m]? with
      | none => rw [e] at hx; cases hx
      | some i => rw [e] at hx; cases hx; exact ⟨i, rfl, rfl⟩
     have ilt := (cU_.mp (List.mem_of_getElem? hi)).1
     have mlt := (List.getElem?_eq_some_iff.mp hi).1
     have sHx : Same H Hx := s1.trans (sS.trans sH)
     obtain ⟨qi, yi, b1, hqi, hrowi⟩ := hat i ilt
     obtain ⟨ui, b2, fi, _⟩ := hrowi kk hk
     have eik := hg.ent i kk ilt hk
     have ekk := hg.ent kk kk hk hk
     have k1 := lI_ ekk.1 hne
     walk_at "rd"
     refine ⟨xs, sHx _ _ hp, _, b1, qi, rfl, yi, sHx _ _ hqi, ui, b2, xs, sHx _ _ hp, _, a1, q, rfl, ys, sHx _ _ hq, _, a2, _, _, ge g i kk, ge g kk kk, rfl, FQ.mono sHx fi, FQ.mono sHx fq, Sm.of eik, Sm.of ekk, Int.mul_ne_zero (by have := eik.1.pos; omega) k1, fun z H3 s3 nz hz => ?_⟩
     have lsh := j4_ eik.1 ekk.1 k1
     have bsh := iX_ eik.1 k1 eik.2.1 eik.2.2 ekk.2.1 ekk.2.2
     have hzF : H3 z = some (.tup [.int (fovr (ge g i kk) (ge g kk kk)).1, .int (fovr (ge g i kk) (ge g kk kk)).2]) := hz
     clear hz
     have sH3 := sHx.trans s3
     walk_at "rd"
     have hD3 := s3 _ _ (sH _ _ (sS _ _ hD1'))
     refine ⟨.inl ⟨_, .inl (.inl (s3 _ _ hLx))⟩, ⟨_, .inl (.inl hD3)⟩, ?_⟩
     refine bL_ (n := (othrs n kk).length) (B := H3) (Pσ := fun σ => ∃ e, σ = [e, some (V.ref p), some (V.int i), some (V.ref z), some (V.int kk)]) (ds := ((othrs n kk).map fun j => fmin (ge g i j) (fmul (fovr (ge g i kk) (ge g kk kk)) (ge g kk j))).map dF) (Same.refl _) ⟨_, rfl⟩ (by simp) (by omega) (fun j H' hj s' => ⟨_, .int ((othrs n kk)[j] : Nat), .inl (.inl (s' _ _ hD3)), by simp [hj]⟩) (fun H' s' => ⟨_, .inl (.inl (s' _ _ hD3)), by simp⟩) ?_ ?_
     ·rintro D j x dd σ' H4 H4' hD hDo s4 hj hdj ⟨rfl, hy⟩ ⟨e, rfl⟩ R kR
      have hx := hy _ (.inl (.inl (s4 _ _ hD3)))
      have hoj := List.getElem?_eq_getElem hj
      rw [List.getElem?_map, hoj] at hx
      cases hx
      have hdd : dd = dF (fmin (ge g i (othrs n kk)[j]) (fmul (fovr (ge g i kk) (ge g kk kk)) (ge g kk (othrs n kk)[j]))) := by
       rw [List.getElem?_map, List.getElem?_map, hoj] at hdj
       exact (Option.some.inj hdj).symm
      have jlt := (cU_.mp (List.mem_of_getElem? hoj)).1
      generalize (othrs n kk)[j] = jj at *
      obtain ⟨uj, c1, fj, _⟩ := hrowi jj jlt
      obtain ⟨uk, c2, fk, _⟩ := hrow jj jlt
      have eij := hg.ent i jj ilt jlt
      have ekj := hg.ent kk jj hk jlt
      have s04 := sH3.trans s4
      walk_at "rd"
      refine ⟨xs, s04 _ _ hp, _, b1, qi, rfl, yi, s04 _ _ hqi, uj, c1, xs, s04 _ _ hp, _, a1, q, rfl, ys, s04 _ _ hq, uk, c2, _, _, fovr (ge g i kk) (ge g kk kk), ge g kk jj, rfl, ⟨z, rfl, SqT.of (s4 _ _ hzF)⟩, FQ.mono s04 fk, Sm.mk' lsh bsh (by decide), Sm.of ekj, mulP lsh ekj.1, fun z5 H5 s5 nz5 hz5 => ?_⟩
      have lm := j3_ lsh ekj.1
      have bm := iY_ lsh ekj.1 bsh.1 bsh.2 ekj.2.1 ekj.2.2
      refine ⟨_, _, ge g i jj, fmul (fovr (ge g i kk) (ge g kk kk)) (ge g kk jj), rfl, FQ.mono (s04.trans s5) fj, ⟨z5, rfl, SqT.of hz5⟩, Sm.of eij, Sm.mk' lm bm (by decide), mulP eij.1 lm, fun z6 H6 s6 nz6 hz6 => kR _ _ _ ⟨_, rfl⟩ (s5.trans s6) ?_⟩
      obtain ⟨oD, hDo⟩ := hDo
      have zD : z6 ≠ D := (ag_ (s5 _ _ hDo) nz6).symm
      rw [hdd]
      exact ⟨z6, _, rfl, by rw [bw_ zD (s4.free (s5.free nz6))]; exact hz6, _, _, rfl, rfl, _, _, rfl, rfl, rfl⟩
     ·intro D H4 hD s4 rep4
      have s34 := s3.trans s4
      have g1 : Same S (grow S Hx H4) := bS_ sH
      have g2 : Same (grow S Hx H4) H4 := ga_ sH s34
      have gL : grow S Hx H4 L = none := by rw [cZ_ hLx]; exact SL
      refine ⟨rs, s34 _ _ hLx, small1000 (by omega), hk1 _ _ ⟨_, _, grow S Hx H4, rs ++ [.ref D], rfl, sS.trans g1, bM_ g2 gL, gL, ac_, ?_, by rw [List.length_append, rl]; rfl⟩⟩
      have et : (tkn g kk).take (m + 1) = (tkn g kk).take m ++ [(othrs n kk).map fun j => fmin (ge g i j) (fmul (fovr (ge g i kk) (ge g kk kk)) (ge g kk j))] := by
       rw [List.take_succ]
       unfold tkn
       rw [gl, List.getElem?_map, hi]
       rfl
      rw [et, List.map_append]
      refine (Reps.mono (dy_ g1) _ rep).append ⟨_, _, rfl, Rep.mono (fun b o h => ?_) _ rep4, rfl⟩
      obtain ⟨h1, h2⟩ := aP_ h
      have hxb := s3.free h1
      rw [bZ_ (sHx.free hxb), f9_ hxb]
      exact h2
    ·rintro σ Hx ⟨e4, e5, S, rs, rfl, sS, sH, SL, hLx, rep, rl⟩
     have tl : (tkn g kk).length = (othrs n kk).length := by unfold tkn; rw [List.length_map, gl]
     rw [List.take_of_length_le (by rw [tl, List.length_map]; exact Nat.le_refl _)] at rep
     walk_at "rd"
     have HL : H L = none := s1.free nL
     refine k L Hx (s1.trans (sS.trans sH)) ⟨L, rs, rfl, by rw [bZ_ HL]; exact hLx, Reps.mono (dy_ sH) _ rep⟩
def sp_toR (K : PySem.W.Frag) (CN CA : Addr) : Sp := fun vs H _ E => ∃ (J : Hp) (v : V) (g : List (List (Int × Int))) (n k : Nat), vs = [v, .int k] ∧ VG K H J ∧ J CN = some (.tup [.int 0, .int 1]) ∧ Rep J v (dG g) ∧ Gd n g ∧ k < n ∧ ge g k k = (0, 1) ∧ ∀ H', Same H H' → E (.ref CA) none H'
theorem hQ_ (T : Txt K mg) (hN : Nt K mg CN) (EX : Exs K mg CR CA CO CW) (F : Fn0 K mg "taken_out" s_taken_out) : CalR P w K mg base "taken_out" ["grid", "k"] 4 (sp_toR K CN CA) := by
 refine m8_ F bu_ (fun _ _ _ _ _ _ us hl => match us, hl with | [_, _], _ => rfl) ?len ?body
 case len => rintro vs H Q E ⟨a, b, c, d, e, rfl, _⟩; rfl
 case body =>
  intro f cdv A outer s H vs Q E hr h
  obtain ⟨J, v, g, n, kk, rfl, hJ, hJN, hv, hg, hk, hne, k⟩ := h
  obtain ⟨p, xs, rfl, hp, xl, hat⟩ := hP_ hJ hv hg
  refine' ⟨_, ?D, ?R⟩
  case D =>
   refine' an_ ?g1 ?g2
   case' g1 => refine' ps_if ?g3 ?g4 aL_
   case' g3 => refine' az_ (ig_ rfl (hr.units)) ?g6 ?g7 (nomark _)
   case' g6 => refine' pe_ix ah_ ?g8 (pvc 1 rfl aZ_) (fun _ _ => rfl)
   case' g8 => refine' pe_ix ah_ (pvc 0 rfl bk_) (pvc 1 rfl aZ_) (fun _ _ => rfl)
   case g7 => exact gi_ hN.m cj_
   case' g4 => refine' ae_ ?g12
   case' g12 => refine' l2_ EX.own_NoAnswer EX.m_NoAnswer hr.hd dO_ ?g13
   case' g13 => refine' pa_c kK_ aa_
   case g2 => exact h0_
  case R =>
   walk_at "rd"
   obtain ⟨q, ys, a1, hq, hrow⟩ := hat kk hk
   obtain ⟨u, a2, fq, ru⟩ := hrow kk hk
   obtain ⟨ua, rfl, squ⟩ := id fq
   refine ⟨xs, hp, _, a1, q, rfl, ys, hq, _, a2, J, hJ.vw, ua, rfl, _, ru, dF (0, 1), ⟨CN, _, rfl, hJN, _, _, rfl, rfl, _, _, rfl, rfl, rfl⟩, _, ke_ _ _, by simp [dep, deps, dF], ?_⟩
   rw [decide_eq_true hne, if_pos rfl]
   try walk_at "rd"
   exact ⟨by decide, k _ (Same.refl _)⟩
abbrev s_Ltaken : Stmt := stN 50
theorem i1_ : FnScope ["_law_grid", "_law_k", "e"] ["_law_grid", "_law_k"] (defScope s_Ltaken) := ⟨rfl, rfl, rfl, by decide +kernel, rfl, by decide +kernel, by decide +kernel⟩
theorem gH_ : LK s_Ltaken "_law_grid" .local := by decide +kernel
theorem gI_ : LK s_Ltaken "_law_k" .local := by decide +kernel
theorem dm_ : LK s_Ltaken "e" .local := by decide +kernel
theorem eV_ : LK s_Ltaken "NoAnswer" .globalImplicit := by decide +kernel
theorem gJ_ : LK s_Ltaken "NoNet" .globalImplicit := by decide +kernel
theorem fq_ : LK s_Ltaken "NoWorth" .globalImplicit := by decide +kernel
theorem eW_ : LK s_Ltaken "RimError" .globalImplicit := by decide +kernel
theorem d1_ : LK s_Ltaken "ValueError" .globalImplicit := by decide +kernel
theorem bh_ : LK s_Ltaken "isinstance" .globalImplicit := by decide +kernel
theorem ck_ : LK s_Ltaken "taken_out" .globalImplicit := by decide +kernel
def sp_tk (K : PySem.W.Frag) (CN : Addr) : Sp := fun vs H Q _ => ∃ (J : Hp) (v : V) (g : List (List (Int × Int))) (n k : Nat), vs = [v, .int k] ∧ VG K H J ∧ J CN = some (.tup [.int 0, .int 1]) ∧ Rep J v (dG g) ∧ Gd n g ∧ k < n ∧
 ∀ z fv H', Same H H' → H z = none → H' z = some (.tup [fv, .bl true]) → ((fv = .non ∧ ge g k k = (0, 1)) ∨ (ge g k k ≠ (0, 1) ∧ ∃ D, fv = .ref D ∧ Rep (newH H H') (.ref D) (dG (tkn g k)))) → Q (.ref z) H'
theorem lJ_ (T : Txt K mg) (EX : Exs K mg CR CA CO CW) (F : Fn0 K mg "_law_taken" s_Ltaken) (C_taken_out : Cal P w K mg base "taken_out" ["grid", "k"] 4 (sp_to K CN)) (R_taken_out : CalR P w K mg base "taken_out" ["grid", "k"] 4 (sp_toR K CN CA)) : Cal P w K mg base "_law_taken" ["_law_grid", "_law_k"] 5 (sp_tk K CN) := by
 refine aJ_ F i1_ (fun _ _ _ _ _ _ us hl => match us, hl with | [_, _], _ => rfl) ?len ?body
 case len => rintro vs H Q E ⟨a, b, c, d, e, rfl, _⟩; rfl
 case body =>
  intro f cdv A outer s H vs Q E hr h
  obtain ⟨J, v, g, n, kk, rfl, hJ, hJN, hv, hg, hk, k⟩ := h
  by_cases hd : ge g kk kk ≠ (0, 1)
  ·have hd0 := hd
   refine' ⟨_, ?D, ?R⟩
   case D =>
    refine' ae_ ?g1
    case' g1 => refine' l6_ (fun _ => ?g2)
    case' g2 => refine' ae_ ?g3
    case' g3 => refine' aq_ ?g4
    case' g4 => refine' aH_ ?g5
    case' g5 => refine' pa_c ?g6 ?g7
    case' g6 => refine' aj_ C_taken_out (hr.mono (by decide)) ck_ ?g8
    case' g8 => refine' pa_c (pv1 0 rfl gH_) ?g10
    case' g10 => refine' pa_c (pv1 1 rfl gI_) aa_
    case' g7 => refine' pa_c pe_bl aa_
   case R =>
    walk_at "rd"
    refine ⟨J, v, g, n, kk, rfl, hJ, hJN, hv, hg, hk, hd, fun D H1 s1 rep => ⟨by decide, fun z nz => ?_⟩⟩
    exact k z (.ref D) _ (s1.trans (Same.new nz)) (s1.free nz) ac_ (.inr ⟨hd, D, rfl, Rep.mono (dy_ (Same.new nz)) _ rep⟩)
  ·have hd := Decidable.not_not.mp hd
   refine' ⟨_, ?D, ?R⟩
   case D =>
    refine' ae_ ?q1
    case' q1 => refine' m9_ (i := 2) R_taken_out (hr.mono (by decide)) ck_ rfl rfl EX.m_RimError EX.hnd_RimError eW_ i1_.nd rfl dm_ (fun _ => ?q2) (fun _ => ?q3)
    case' q2 => refine' pa_c (pv1 0 rfl gH_) ?q5
    case' q5 => refine' pa_c (pv1 1 rfl gI_) aa_
    case' q3 => refine' ae_ ?q8
    case' q8 => refine' aq_ ?q9
    case' q9 => refine' aH_ ?q10
    case' q10 => refine' pa_c ?q11 ?q12
    case q11 => exact nO_
    case' q12 => refine' pa_c ?q13 aa_
    case' q13 => refine' jG_ ?q15 ?q16
    case' q15 => refine' al_ (f8_ (K := K) rfl) bh_ T.n_isinstance aV_ ?q17
    case' q17 => refine' pa_c (pv1 2 rfl dm_) ?q19
    case' q19 => refine' pa_c ?q20 aa_
    case q20 => exact jC_ eV_ EX.m_NoAnswer
    case' q16 => refine' jG_ ?q22 ?q23
    case' q22 => refine' al_ (f8_ (K := K) rfl) bh_ T.n_isinstance aV_ ?q24
    case' q24 => refine' pa_c (pv1 2 rfl dm_) ?q26
    case' q26 => refine' pa_c ?q27 aa_
    case q27 => exact gZ_ d1_ T.n_ValueError hu_
    case' q23 => refine' kM_ ?q29
    case' q29 => refine' mw_ ?q30
    case' q30 => refine' al_ (f8_ (K := K) rfl) bh_ T.n_isinstance aV_ ?q31
    case' q31 => refine' pa_c (pv1 2 rfl dm_) ?q33
    case' q33 => refine' pa_c ?q34 aa_
    case' q34 => refine' aH_ ?q36
    case' q36 => refine' pa_c ?q37 ?q38
    case q37 => exact jC_ gJ_ EX.m_NoNet
    case' q38 => refine' pa_c ?q39 aa_
    case q39 => exact jC_ fq_ EX.m_NoWorth
   case R =>
    walk_at "rd"
    refine ⟨J, v, g, n, kk, rfl, hJ, hJN, hv, hg, hk, hd, fun H1 s1 => ⟨CA, rfl, EX.sub, fun ea hea => ?_⟩⟩
    have se : Same H1 (upd H1 ea (exO (.ref CA) ea)) := Same.new hea
    try walk_at "rd"
    refine ⟨CA, rfl, EX.kit, true, .inr (.inl EX.isA), ?_⟩
    rw [if_pos rfl]
    refine ⟨CA, rfl, EX.kit, true, by first | exact .inl EX.isV | exact .inl ⟨_, rfl, EX.isV⟩, ?_⟩
    rw [if_pos rfl]
    refine ⟨by decide, fun p hp => ?_⟩
    have sp := Same.new hp (o := HO.tup [.ref CO, .ref CW])
    refine ⟨CA, sp _ _ ac_, EX.kit, false, .inr (.inr ⟨[CO, CW], rfl, EX.isN⟩), ?_⟩
    have st := (s1.trans se).trans sp
    refine ⟨by decide, fun z nz => k z _ _ (st.trans (Same.new nz)) (st.free nz) ac_ (.inl ⟨rfl, hd⟩)⟩
theorem i2_ {H : Hp} {ws : List V} {wo : List (Str × (Int × Int))} {i : Nat} {x : V} (h : Reps H ws (wo.map dWo)) (e : ws[i]? = some x) : ∃ r q u, wo[i]? = some r ∧ x = .ref q ∧ H q = some (.tup [.str r.1, .ref u]) ∧ H u = some (.tup [.int r.2.1, .int r.2.2]) := by
 obtain ⟨d, hd, hr⟩ := h.of_get e
 rw [List.getElem?_map] at hd
 cases z : wo[i]? with
 | none => rw [z] at hd; cases hd
 | some r =>
  rw [z] at hd
  cases hd
  obtain ⟨a, _, ea, ha, x1, _, e1, hx1, x2, _, e2, hx2, e3⟩ := hr
  subst e3 e2 e1
  cases hx1
  obtain ⟨u, rfl, hu⟩ := bC_ hx2
  exact ⟨r, a, u, rfl, ea, ha, hu⟩
abbrev s_Lsmall : Stmt := stN 41
theorem lK_ : FnScope ["_law_net"] ["_law_net"] (defScope s_Lsmall) := ⟨rfl, rfl, rfl, by decide +kernel, rfl, by decide +kernel, by decide +kernel⟩
theorem cl_ : LK s_Lsmall "_law_net" .local := by decide +kernel
theorem hR_ : LK s_Lsmall "len" .globalImplicit := by decide +kernel
def smal (r : Str × (Int × Int)) : Str × (Int × Int) := (r.1, nf (1 + r.2.1 % 5) (1 + r.2.2 % 3))
def sp_small : Sp := fun vs H Q _ => ∃ (v : V) (N : Net Str), vs = [v] ∧ Rep H v (dNet N) ∧ NetOk N ∧ WOk N ∧ ∀ v' (N' : Net Str) H', Same H H' → Rep H' v' (dNet N') → NetOk N' → WOk N' → N'.rows = N.rows → Q v' H'
theorem lL_ (T : Txt K mg) (F : Fn0 K mg "_law_small" s_Lsmall) (C_Llow : Cal P w K mg base "_law_low" ["_law_top", "_law_bottom"] 1 sp_low) : Cal P w K mg base "_law_small" ["_law_net"] 2 sp_small := by
 refine aJ_ F lK_ (fun _ _ _ _ _ _ us hl => match us, hl with | [_], _ => rfl) ?len ?body
 case len => rintro vs H Q E ⟨a, b, rfl, _⟩; rfl
 case body =>
  intro f cdv A outer s H vs Q E hr h
  obtain ⟨v, N, rfl, hv, ok, wo, k⟩ := h
  obtain ⟨pn, p0, p1, p2, rs, ws, rfl, hn, h0, h1, r1, h2, r2⟩ := dK_ hv
  have wl : ws.length = N.worths.length := by rw [r2.length, List.length_map]
  have w15 := ok.wl
  refine' ⟨_, ?D, ?R⟩
  case D =>
   refine' ad_ ?g1 ?g2
   case' g1 => refine' ps_if ?g3 ?g4 aL_
   case' g3 => refine' az_ op_lt ?g6 ab_ (nomark _)
   case' g6 => refine' al_ am_ hR_ T.n_len aQ_ ?g8
   case' g8 => refine' pa_c ?g9 aa_
   case' g9 => refine' pe_ix ao_ (pv1 0 rfl cl_) ab_ (fun _ _ => rfl)
   case' g4 => refine' ae_ ?g13
   case' g13 => refine' aq_ (pv1 0 rfl cl_)
   case' g2 => refine' ae_ ?g15
   case' g15 => refine' aq_ ?g16
   case' g16 => refine' aH_ ?g17
   case' g17 => refine' pa_c ?g18 ?g19
   case' g18 => refine' pe_ix ao_ (pv1 0 rfl cl_) ab_ (fun _ _ => rfl)
   case' g19 => refine' pa_c ?g22 ?g23
   case' g22 => refine' pe_ix ao_ (pv1 0 rfl cl_) ab_ (fun _ _ => rfl)
   case' g23 => refine' pa_c ?g26 aa_
   case' g26 => refine' bY_ (N' := ["_law_wire", "_law_worth"]) (ix := [none, none]) rfl rfl (bR_ ?g28) ?g29 (fun _ _ _ => ?g30) (fun _ _ _ => ?g31) (fun _ _ _ => ?g32)
   case g28 => exact (by show scpB (defScope s_Lsmall) ["_law_net"] _ _ _ = true; decide +kernel)
   case' g29 => refine' aK_ (K := K) rfl ?g33
   case' g33 => refine' pe_ix ao_ (pv1 0 rfl cl_) ab_ (fun _ _ => rfl)
   case' g30 => refine' bc_ (K := K) (n := 2) rfl rfl ?g36
   case' g36 => refine' ap_ ?g37 ?g38
   case g37 => exact ak_ (i := 0) (by show List.Nodup (["_law_wire", "_law_worth"] : List Str); decide +kernel) rfl rfl
   case' g38 => refine' ap_ ?g39 ba_
   case g39 => exact ak_ (i := 1) (by show List.Nodup (["_law_wire", "_law_worth"] : List Str); decide +kernel) rfl rfl
   case g31 => exact ct_
   case' g32 => refine' aH_ ?g41
   case' g41 => refine' pa_c (pv1 0 rfl rfl) ?g43
   case' g43 => refine' pa_c ?g44 aa_
   case' g44 => refine' aj_ C_Llow (hr.mono (by decide)) rfl ?g46
   case' g46 => refine' pa_c ?g47 ?g48
   case' g47 => refine' pe_op aN_ ab_ ?g50
   case' g50 => refine' pe_op aG_ ?g51 ab_
   case' g51 => refine' pe_ix ao_ (pv1 1 rfl rfl) ab_ (fun _ _ => rfl)
   case' g48 => refine' pa_c ?g55 aa_
   case' g55 => refine' pe_op aN_ ab_ ?g58
   case' g58 => refine' pe_op aG_ ?g59 ab_
   case' g59 => refine' pe_ix ao_ (pv1 1 rfl rfl) ab_ (fun _ _ => rfl)
  case R =>
   walk_at "rd"
   refine ⟨_, hn, _, atI_2, p2, rfl, ws, .inl h2, ite2 (fun _ => k _ N H (Same.refl _) hv ok wo rfl) (fun _ => ?_)⟩
   refine ⟨_, hn, _, atI_0, _, hn, _, atI_1, _, hn, _, atI_2, p2, rfl, ⟨_, .inl (.inl h2)⟩, ?_⟩
   refine bL_ (n := N.worths.length) (B := fun _ => none) (Pσ := fun σ => ∃ e e', σ = [e, e']) (ds := (N.worths.map smal).map dWo) (fun b o e => by cases e) ⟨_, _, rfl⟩ (by simp) (by omega) (fun i H' hi s' => ⟨ws, ws[i]'(by omega), .inl (.inl (s' _ _ h2)), List.getElem?_eq_getElem _⟩) (fun H' s' => ⟨ws, .inl (.inl (s' _ _ h2)), by omega⟩) ?_ ?_
   ·rintro D i x d σ' H2 H2' hD hDo hs2 hi hdi ⟨rfl, hy⟩ ⟨e, e', rfl⟩ R kR
    have hx := hy _ (.inl (.inl (hs2 _ _ h2)))
    obtain ⟨r, q, u, hr1, rfl, hq, hu⟩ := i2_ r2 hx
    have hd : d = dWo (smal r) := by
     rw [List.getElem?_map, List.getElem?_map, hr1] at hdi
     exact (Option.some.inj hdi).symm
    have m3 := Int.emod_nonneg r.2.2 (show (3 : Int) ≠ 0 by decide)
    have m4 := Int.emod_lt_of_pos r.2.2 (show (0 : Int) < 3 by decide)
    have hu2 := hs2 _ _ hu
    obtain ⟨oD, hDo⟩ := hDo
    walk_at "rd"
    refine ⟨_, SqT.of (hs2 _ _ hq), rfl, _, _, rfl, _, _, rfl, rfl, u, rfl, _, hu2, _, atI_0, _, rfl, by decide, u, rfl, _, hu2, _, atI_1, _, rfl, by decide, _, _, rfl, by omega, PyProof.Rows.bits_of_natAbs_le (b := 1000) (by omega) (by decide), fun z H3 s3 rep3 => ⟨by decide, fun t nt => kR _ _ _ ⟨_, _, rfl⟩ (s3.trans (Same.new nt)) ?_⟩⟩
    obtain ⟨_, e9, hz⟩ := bC_ rep3
    cases e9
    obtain ⟨z1, z2⟩ := aP_ hz
    have zD : z ≠ D := (ag_ hDo z1).symm
    have tD : t ≠ D := (ag_ (s3 _ _ hDo) nt).symm
    rw [hd]
    exact ⟨t, _, rfl, by rw [bw_ tD rfl]; exact ac_, _, _, rfl, rfl, _, _, rfl, ⟨z, _, rfl, by rw [bw_ zD rfl]; exact (Same.new nt) _ _ z2, _, _, rfl, rfl, _, _, rfl, rfl, rfl⟩, rfl⟩
   ·intro D H2 hD s2 rep2
    refine ⟨by decide, fun pe ne => ?_⟩
    have S4 := Same.new ne (o := HO.tup [V.ref p0, V.ref p1, V.ref D])
    have s4 := s2.trans S4
    have e1 : (N.worths.map smal).map (·.1) = N.worths.map (·.1) := by rw [List.map_map]; rfl
    refine k _ ⟨N.posts, N.rows, N.worths.map smal⟩ _ s4 ⟨pe, _, rfl, ac_, _, _, rfl, ⟨p0, _, rfl, s4 _ _ h0, cf_ _⟩, _, _, rfl, ⟨p1, rs, rfl, s4 _ _ h1, Reps.mono s4 _ r1⟩, _, _, rfl, Rep.mono (bb_.trans S4) _ rep2, rfl⟩ ⟨ok.nd, ok.two, ok.few, ok.tot, ok.pl, by show (N.worths.map smal).length ≤ 15; rw [List.length_map]; exact w15⟩ ⟨by show ((N.worths.map smal).map (·.1)).Nodup; rw [e1]; exact wo.nd, fun x => ?_, fun x hx => ?_⟩ rfl
    ·show x ∈ (N.worths.map smal).map (·.1) ↔ x ∈ N.all
     rw [e1]
     exact wo.mem x
    ·obtain ⟨r, hr, rfl⟩ := List.mem_map.mp hx
     have m1 := Int.emod_nonneg r.2.1 (show (5 : Int) ≠ 0 by decide)
     have m2 := Int.emod_lt_of_pos r.2.1 (show (0 : Int) < 5 by decide)
     have m3 := Int.emod_nonneg r.2.2 (show (3 : Int) ≠ 0 by decide)
     have m4 := Int.emod_lt_of_pos r.2.2 (show (0 : Int) < 3 by decide)
     exact ws_nf (by omega) (by omega) (by omega) (by omega)
def endOf (N : Net Str) (x : Str) : Str × List (End Str) := ((endsN N).find? fun kv => decide (kv.1 = x)).getD (x, [])
def tiesL (N : Net Str) : List (Str × Str × (Int × Int)) := N.worths.map fun r => (Rim21.p1 (endOf N r.1), Rim21.p2 (endOf N r.1), r.2)
def dTi (t : Str × Str × (Int × Int)) : Dt := .tup [.str t.1, .str t.2.1, dF t.2.2]
theorem hS_ {N : Net Str} {kv : Str × List (End Str)} (h : kv ∈ endsN N) : endOf N kv.1 = kv := by
 unfold endOf
 cases e : (endsN N).find? fun q => decide (q.1 = kv.1) with
 | none =>
  have := List.find?_eq_none.mp e kv h
  simp at this
 | some q =>
  have h1 := List.mem_of_find?_eq_some e
  have h2 : q.1 = kv.1 := of_decide_eq_true (by simpa using List.find?_some e)
  show q = kv
  obtain ⟨i, hi, ei⟩ := List.mem_iff_getElem.mp h1
  obtain ⟨j, hj, ej⟩ := List.mem_iff_getElem.mp h
  have z := (List.getElem_inj (h₀ := by rw [List.length_map]; exact hi) (h₁ := by rw [List.length_map]; exact hj) (jh_ N)).mp (by rw [List.getElem_map, List.getElem_map, ei, ej]; exact h2)
  subst z
  rw [← ei, ← ej]
theorem wN_at {N : Net Str} (wo : WOk N) {r : Str × (Int × Int)} (h : r ∈ N.worths) : wN N r.1 = r.2 := by
 have h1 := wN_in wo ((wo.mem r.1).mp (List.mem_map.mpr ⟨r, h, rfl⟩))
 obtain ⟨i, hi, ei⟩ := List.mem_iff_getElem.mp h1
 obtain ⟨j, hj, ej⟩ := List.mem_iff_getElem.mp h
 have z := (List.getElem_inj (h₀ := by rw [List.length_map]; exact hi) (h₁ := by rw [List.length_map]; exact hj) wo.nd).mp (by rw [List.getElem_map, List.getElem_map, ei, ej])
 subst z
 rw [ei] at ej
 exact congrArg (·.2) ej
theorem lM_ {N : Net Str} (wo : WOk N) : (ties N).Perm ((tiesL N).map fun t => (t.1, t.2.1, Xw (bN N) t.2.2)) := by
 have e1 : ties N = ((endsN N).map (·.1)).map fun x => (Rim21.p1 (endOf N x), Rim21.p2 (endOf N x), Xw (bN N) (wN N x)) := by
  unfold ties
  rw [List.map_map]
  refine List.map_congr_left fun kv h => ?_
  show tie N kv = _
  rw [Function.comp_apply, hS_ h]
  rfl
 have e2 : ((tiesL N).map fun t => (t.1, t.2.1, Xw (bN N) t.2.2)) = (N.worths.map (·.1)).map fun x => (Rim21.p1 (endOf N x), Rim21.p2 (endOf N x), Xw (bN N) (wN N x)) := by
  unfold tiesL
  rw [List.map_map, List.map_map]
  refine List.map_congr_left fun r h => ?_
  show (Rim21.p1 (endOf N r.1), Rim21.p2 (endOf N r.1), Xw (bN N) r.2) = (Rim21.p1 (endOf N r.1), Rim21.p2 (endOf N r.1), Xw (bN N) (wN N r.1))
  rw [wN_at wo h]
 rw [e1, e2]
 exact (iR_ wo).map _
def dP (e : End Str) : Dt := .str e.1
theorem lN_ {S : Hp} : ∀ {vs : List V} {es : List (End Str)}, Reps S vs (es.map dP) → vs = es.map fun e => V.str e.1
 | _, [], h => h
 | _, e :: es, ⟨x, l, e1, hx, hl⟩ => by
  subst e1
  cases hx
  rw [lN_ hl]
  rfl
abbrev s_Lties : Stmt := stN 48
theorem eX_ : FnScope ["_law_net", "_law_ties_here", "_law_point", "_law_wires", "_law_wire"] ["_law_net"] (defScope s_Lties) := ⟨rfl, rfl, rfl, by decide +kernel, rfl, by decide +kernel, by decide +kernel⟩
theorem hf_ : LK s_Lties "_law_net" .local := by decide +kernel
theorem hg_ : LK s_Lties "_law_ties_here" .cell := by decide +kernel
theorem hh_ : LK s_Lties "_law_point" .local := by decide +kernel
theorem hi_ : LK s_Lties "_law_wires" .local := by decide +kernel
theorem hj_ : LK s_Lties "_law_wire" .local := by decide +kernel
def sp_ties : Sp := fun vs H Q _ => ∃ (v : V) (N : Net Str), vs = [v] ∧ Rep H v (dNet N) ∧ NetOk N ∧ WOk N ∧ ∀ D H', Same H H' → H D = none → Rep H' (.ref D) (.lst ((tiesL N).map dTi)) → Q (.ref D) H'
theorem mq_ (T : Txt K mg) (F : Fn0 K mg "_law_ties" s_Lties) : Cal P w K mg base "_law_ties" ["_law_net"] 1 sp_ties := by
 refine aJ_ F eX_ (fun _ _ _ _ _ _ us hl => match us, hl with | [_], _ => rfl) ?len ?body
 case len => rintro vs H Q E ⟨a, b, rfl, _⟩; rfl
 case body =>
  intro f cdv A outer s H vs Q E hr h
  obtain ⟨v, N, rfl, hv, ok, wo, k⟩ := h
  refine' ⟨_, ?D, ?R⟩
  case D =>
   refine' ad_ ?g1 ?g2
   case' g1 => refine' e6_ (i := 1) eX_.nd rfl hg_ rfl hy_ rfl
   case' g2 => refine' ad_ ?g4 ?g5
   case' g4 => refine' bg_ PassesOwn.never rfl ?g6 ?g7 ?g8
   case' g6 => refine' aK_ (K := K) rfl ?g9
   case' g9 => refine' pe_ix ao_ (pv1 0 rfl hf_) ab_ (fun _ _ => rfl)
   case' g7 => refine' bc_ (K := K) (n := 2) rfl rfl ?g12
   case' g12 => refine' ap_ ?g13 ?g14
   case g13 => exact ak_ (i := 2) eX_.nd rfl hh_
   case' g14 => refine' ap_ ?g15 ba_
   case g15 => exact ak_ (i := 3) eX_.nd rfl hi_
   case' g8 => refine' ae_ ?g17
   case' g17 => refine' bg_ PassesOwn.never rfl ?g18 ?g19 ?g20
   case' g18 => refine' aK_ (K := K) rfl (pv1 3 rfl hi_)
   case g19 => exact ak_ (i := 4) eX_.nd rfl hj_
   case' g20 => refine' ae_ ?g22
   case' g22 => refine' bv_ ?g23
   case' g23 => refine' pe_bm PySem.F.plainAttrs_list PySem.F.slot_list_append PySem.F.type_list_append bi_ ?g24 ?g25
   case' g24 => refine' pe_bm PySem.F.plainAttrs_dict PySem.F.slot_dict_setdefault PySem.F.type_dict_setdefault eB_ (pvc 1 rfl hg_) ?g27
   case' g27 => refine' pa_c (pv1 4 rfl hj_) ?g29
   case' g29 => refine' pa_c ?g30 aa_
   case' g30 => refine' cG_ aa_
   case' g25 => refine' pa_c (pv1 2 rfl hh_) aa_
   case' g5 => refine' ae_ ?g35
   case' g35 => refine' aq_ ?g36
   case' g36 => refine' bY_ (N' := ["_law_wire", "_law_worth", "_law_ties_here"]) (ix := [none, none, some 1]) rfl rfl (bR_ ?g37) ?g38 (fun _ _ _ => ?g39) (fun _ _ _ => ?g40) (fun _ _ _ => ?g41)
   case g37 => exact (by show scpB (defScope s_Lties) ["_law_net", "_law_ties_here", "_law_point", "_law_wires", "_law_wire"] _ _ _ = true; decide +kernel)
   case' g38 => refine' aK_ (K := K) rfl ?g42
   case' g42 => refine' pe_ix ao_ (pv1 0 rfl hf_) ab_ (fun _ _ => rfl)
   case' g39 => refine' bc_ (K := K) (n := 2) rfl rfl ?g45
   case' g45 => refine' ap_ ?g46 ?g47
   case g46 => exact ak_ (i := 0) (by show List.Nodup (["_law_wire", "_law_worth", "_law_ties_here"] : List Str); decide +kernel) rfl rfl
   case' g47 => refine' ap_ ?g48 ba_
   case g48 => exact ak_ (i := 1) (by show List.Nodup (["_law_wire", "_law_worth", "_law_ties_here"] : List Str); decide +kernel) rfl rfl
   case g40 => exact ct_
   case' g41 => refine' aH_ ?g50
   case' g50 => refine' pa_c ?g51 ?g52
   case' g51 => refine' pe_ix ah_ ?g53 ab_ (fun _ _ => rfl)
   case' g53 => refine' ea_ (un1 hr.units) (pvc 2 rfl rfl) (pv1 0 rfl rfl) (fun _ _ => rfl)
   case' g52 => refine' pa_c ?g57 ?g58
   case' g57 => refine' pe_ix ah_ ?g59 ab_ (fun _ _ => rfl)
   case' g59 => refine' ea_ (un1 hr.units) (pvc 2 rfl rfl) (pv1 0 rfl rfl) (fun _ _ => rfl)
   case' g58 => refine' pa_c (pv1 1 rfl rfl) aa_
  case R =>
   walk_at "rd"
   obtain ⟨pn, p0, p1, p2, rs, ws, rfl, hn, h0, h1, r1, h2, r2⟩ := dK_ hv
   have rl : rs.length = N.rows.length := by rw [r1.length, List.length_map]
   intro d nd
   have Sd : Same H (upd H d (HO.dK [])) := Same.new nd
   refine ⟨pn, rfl, _, Sd _ _ hn, _, atI_1, p1, rfl, ⟨_, .inl (.inl (Sd _ _ h1))⟩, ?_⟩
   have D0 : DE dP H (upd H d (HO.dK [])) d [] (endsL (occ (N.rows.take 0))) := ⟨Sd, ac_, rfl, List.nodup_nil, fun z => (by cases z), fun i l kv z => (by cases z), nd, fun l z => (by cases z)⟩
   refine dT_ (xs := rs) (fun i σ H' => ∃ (e2 e3 e4 : Option V) (S : Hp) (ls : List Addr), σ = [some (.ref pn), some (.ref d), e2, e3, e4] ∧ Same H S ∧ DE dP S H' d ls (endsL (occ (N.rows.take i)))) ⟨none, none, none, H, [], rfl, Same.refl _, D0⟩ ?_ ?_ ?_
   ·rintro i σ H' hi ⟨e2, e3, e4, S, ls, rfl, sS, de⟩
    exact .inl (.inl (de.sH _ _ (sS _ _ h1)))
   ·rintro i x σ H' hx kk kb hk hbk G hG ⟨e2, e3, e4, S, ls, rfl, sS, de⟩
    obtain ⟨r, q, l, hr1, rfl, hq, hl⟩ := eO_ r1 hx
    have s1 := sS.trans de.sH
    rw [fU_ hr1] at hk
    have occle : ∀ j, ∃ m, (occ (N.rows.take i) ++ (occRow r.1 0 r.2).take j) ++ m = occ N.rows := fun j => by
     refine ⟨(occRow r.1 0 r.2).drop j ++ occ (N.rows.drop (i + 1)), ?_⟩
     rw [List.append_assoc, ← List.append_assoc (List.take j _), List.take_append_drop, ← List.append_assoc, ← fU_ hr1]
     unfold occ
     rw [← List.flatten_append, ← List.map_append, List.take_append_drop]
    walk_at "rd"
    refine ⟨_, SqT.of (s1 _ _ hq), rfl, _, _, rfl, _, _, rfl, rfl, l, rfl, ⟨_, .inl (.inl (s1 _ _ hl))⟩, ?_⟩
    refine dT_ (xs := r.2.map V.str) (fun j σ H' => ∃ (e4 : Option V) (S : Hp) (ls : List Addr), σ = [some (.ref pn), some (.ref d), some (.str r.1), some (.ref l), e4] ∧ Same H S ∧ DE dP S H' d ls (endsL (occ (N.rows.take i) ++ (occRow r.1 0 r.2).take j))) ⟨e4, S, ls, rfl, sS, by rw [List.take_zero, List.append_nil]; exact de⟩ ?_ ?_ ?_
    ·rintro j σ H2 hj ⟨e4, S, ls, rfl, sS, de⟩
     exact .inl (.inl ((sS.trans de.sH) _ _ hl))
    ·rintro j x σ H2 hx kk2 kb2 hk2 hbk2 G2 hG2 ⟨e4, S, ls, rfl, sS, de⟩
     rw [List.getElem?_map] at hx
     obtain ⟨wr, hw, rfl⟩ : ∃ wr, r.2[j]? = some wr ∧ x = .str wr := by
      cases e : r.2[j]? with
      | none => rw [e] at hx; cases hx
      | some wr => rw [e] at hx; cases hx; exact ⟨wr, rfl, rfl⟩
     have tk : (occRow r.1 0 r.2).take (j + 1) = (occRow r.1 0 r.2).take j ++ [(wr, (r.1, j))] := by
      rw [List.take_succ, fg_, hw]
      simp
     obtain ⟨m, hm⟩ := occle j
     have few := j9_ ok _ _ hm
     have short := ha_ ok _ _ hm
     rw [tk, ← List.append_assoc, dS_] at hk2
     generalize endsL (occ (N.rows.take i) ++ (occRow r.1 0 r.2).take j) = acc at *
     walk_at "rd"
     refine ⟨.inr (.inr (.inl (.inl ⟨_, de.dict⟩))), Nat.zero_le _, fun q nq => ?_⟩
     have qd : q ≠ d := (ag_ de.dict nq).symm
     have ql : q ∉ ls := fun z => by
      obtain ⟨i0, hi0, ei⟩ := List.mem_iff_getElem.mp z
      obtain ⟨vs, z2, _⟩ := de.lst i0 q (acc[i0]'(by rw [← de.len]; exact hi0)) (by rw [List.getElem?_eq_getElem hi0, ei]) (List.getElem?_eq_getElem _)
      rw [nq] at z2
      cases z2
     have Sq : S q = none := de.sH.free nq
     have de3 := de.mono (Same.new nq (o := HO.lst []))
     have hq4 := ac_ (H := H2) (a := q) (o := HO.lst [])
     generalize upd H2 q (HO.lst []) = H4 at *
     refine ⟨_, .inr wr, rfl, de3.dict, by rw [jx_ de3.len]; omega, fun v2 hv2 => ?_, fun hnone => ?_⟩
     ·have hex : ∃ kv ∈ acc, kv.1 = wr := by
       by_cases hc : ∃ kv ∈ acc, kv.1 = wr
       ·exact hc
       ·rw [fT_ (fun kv hkv z => hc ⟨kv, hkv, z⟩)] at hv2
        cases hv2
      obtain ⟨i0, es, g1, g2, g3⟩ := cI_ (e := (r.1, j)) hex
      obtain ⟨lw, l1, l2⟩ := dV_ de3.len g1 g2
      rw [l2] at hv2
      cases hv2
      obtain ⟨vs, hvs, hrep⟩ := de3.lst i0 lw _ l1 g1
      have vle : vs.length ≤ 30 := by
       rw [hrep.length, List.length_map]
       exact short _ (List.mem_of_getElem? g1)
      refine ⟨.inl ⟨_, .inl (.inl hvs)⟩, lw, rfl, vs, hvs, small1000 (by omega), ?_⟩
      rw [g3] at hk2
      exact hk2 _ _ ⟨_, S, ls, rfl, sS, de3.old g1 l1 hvs hrep (e := (r.1, j)) rfl⟩
     ·have hno : ∀ kv ∈ acc, kv.1 ≠ wr := fun kv hkv z => by
       obtain ⟨i0, es, g1, g2, g3⟩ := cI_ (e := (r.1, j)) ⟨kv, hkv, z⟩
       obtain ⟨lw, l1, l2⟩ := dV_ de3.len g1 g2
       rw [l2] at hnone
       cases hnone
      have hqd : upd H4 d (HO.dK (putK (kvsOf acc ls) (Sum.inr wr) (V.ref q))) q = some (.lst []) := by rw [af_ qd]; exact hq4
      rw [gl_ hno] at hk2
      exact ⟨.inl ⟨_, .inl (.inl hqd)⟩, [], hqd, small1000 (by decide), hk2 _ _ ⟨_, S, ls ++ [q], rfl, sS, de3.new (e := (r.1, j)) (q := q) hno hq4 qd ql Sq rfl⟩⟩
    ·rintro σ H2 ⟨e4, S, ls, rfl, sS, de⟩
     rw [List.take_of_length_le (l := occRow r.1 0 r.2) (by rw [g9_, List.length_map]; exact Nat.le_refl _)] at de
     exact hk _ _ ⟨_, _, _, S, ls, rfl, sS, de⟩
   ·rintro σ H' ⟨e2, e3, e4, S, ls, rfl, sS, de⟩
    rw [List.take_of_length_le (by omega)] at de
    have deN : DE dP S H' d ls (endsN N) := de
    walk_at "rd"
    have sH := sS.trans de.sH
    have wl : ws.length = N.worths.length := by rw [r2.length, List.length_map]
    have w15 := ok.wl
    have h2' := sH _ _ h2
    refine ⟨_, sH _ _ hn, _, atI_2, p2, rfl, ⟨_, .inl (.inl h2')⟩, ?_⟩
    refine bL_ (n := N.worths.length) (B := fun _ => none) (Pσ := fun σ => ∃ e e', σ = [e, e', some (.ref d)]) (ds := (tiesL N).map dTi) (fun b o e => by cases e) ⟨_, _, rfl⟩ (by unfold tiesL; simp) (by omega) (fun i H' hi s' => ⟨ws, ws[i]'(by omega), .inl (.inl (s' _ _ h2')), List.getElem?_eq_getElem _⟩) (fun H' s' => ⟨ws, .inl (.inl (s' _ _ h2')), by omega⟩) ?_ ?_
    ·rintro D i x dd σ' H2 H2' hD hDo hs2 hi hdi ⟨rfl, hy⟩ ⟨e, e', rfl⟩ R kR
     have hx := hy _ (.inl (.inl (hs2 _ _ h2')))
     obtain ⟨r, q, u, hr1, rfl, hq, hu⟩ := i2_ r2 hx
     have hd : dd = dTi (Rim21.p1 (endOf N r.1), Rim21.p2 (endOf N r.1), r.2) := by
      rw [List.getElem?_map] at hdi
      unfold tiesL at hdi
      rw [List.getElem?_map, hr1] at hdi
      exact (Option.some.inj hdi).symm
     obtain ⟨oD, hDo⟩ := hDo
     have rin : r.1 ∈ (endsN N).map (·.1) := gG_.mpr ((wo.mem r.1).mp (List.mem_map.mpr ⟨r, List.mem_of_getElem? hr1, rfl⟩))
     obtain ⟨kv, kv1, kv2⟩ := List.mem_map.mp rin
     obtain ⟨j, hj, ej⟩ := List.mem_iff_getElem.mp kv1
     obtain ⟨ea, eb, e2⟩ := hE_ ok kv1
     have aj : (endsN N)[j]? = some (r.1, kv.2) := by rw [List.getElem?_eq_getElem hj, ej, ← kv2]
     obtain ⟨lw, l1, l2⟩ := dV_ deN.len aj (fun j' kv' hj' e' z => by
      have hj2 := (List.getElem?_eq_some_iff.mp e').1
      have z1 := (List.getElem_inj (h₀ := by rw [List.length_map]; exact hj2) (h₁ := by rw [List.length_map]; exact hj) (jh_ N)).mp (by rw [List.getElem_map, List.getElem_map, ej, (List.getElem?_eq_some_iff.mp e').2, kv2]; exact z)
      omega)
     obtain ⟨vs, hvs, hrep⟩ := deN.lst j lw _ l1 aj
     rw [show (r.1, kv.2).2 = [ea, eb] from e2] at hrep
     have evs := lN_ hrep
     rw [evs] at hvs
     have dg := DGet.k (k := .inr r.1) (hs2 _ _ deN.dict)
     rw [l2] at dg
     have hvs2 := hs2 _ _ hvs
     have eo : endOf N r.1 = kv := by rw [← kv2]; exact hS_ kv1
     have hu2 := hs2 _ _ (sH _ _ hu)
     walk_at "rd"
     refine ⟨_, SqT.of (hs2 _ _ (sH _ _ hq)), rfl, _, _, rfl, _, _, rfl, rfl, _, dg, lw, rfl, _, hvs2, _, atI_0, _, dg, lw, rfl, _, hvs2, _, atI_1, by decide, fun t nt => kR _ _ _ ⟨_, _, rfl⟩ (Same.new nt) ?_⟩
     have tD : t ≠ D := (ag_ hDo nt).symm
     have uD : u ≠ D := fun c => by
      have z := sH _ _ hu
      rw [c, hD] at z
      cases z
     rw [hd, eo]
     unfold Rim21.p1 Rim21.p2
     rw [e2]
     exact ⟨t, _, rfl, by rw [bw_ tD rfl]; exact ac_, _, _, rfl, rfl, _, _, rfl, rfl, _, _, rfl, ⟨u, _, rfl, by rw [bw_ uD rfl]; exact (Same.new nt) _ _ hu2, _, _, rfl, rfl, _, _, rfl, rfl, rfl⟩, rfl⟩
    ·intro D H2 hD s2 rep2
     exact k D H2 (sH.trans s2) (sH.free hD) (Rep.mono bb_ _ rep2)
def refsN (n : Nat) (qs : Nat → Addr) : List V := (List.range n).map fun k => V.ref (qs k)
theorem gK_ {n : Nat} {qs : Nat → Addr} : (refsN n qs).length = n := by unfold refsN; rw [List.length_map, List.length_range]
theorem mr_ {n i : Nat} {qs : Nat → Addr} (h : i < n) : atI (refsN n qs) (i : Int) = some (.ref (qs i)) := b8_ (by omega) (by rw [Int.toNat_natCast]; unfold refsN; rw [List.getElem?_map, List.getElem?_range h]; rfl)
theorem lO_ {J : It} {g : TG} {te : TE} {σ : L2.St} {H : Hp} {Q : VK} (n : Nat) (Pσ : L2.St → Prop) (ds : List Dt) (h0 : Pσ σ) (hz : n ≤ 1000) (hgo : ∀ i H', i < n → Same H H' → J.go i H') (hst : ∀ H', Same H H' → J.stop n H')
  (hs : ∀ D i x σ' H' H'', H D = none → (∃ o, H' D = some o) → Same H H' → i < n → J.yld i H' x H'' → Pσ σ' → ∀ R : L2.St → V → Hp → Prop, (∀ σ2 q H3, Pσ σ2 → Same H' H3 → H' q = none → Rep (cutH H D H3) (.ref q) (.lst ds) → R σ2 (.ref q) H3) → g x σ' H'' fun σ2 H2 => te σ2 H2 fun v H3 => R σ2 v H3)
  (hd : ∀ D H' (qs : Nat → Addr), H D = none → Same H H' → H' D = some (.lst (refsN n qs)) → (∀ a b, a < n → b < n → qs a = qs b → a = b) → (∀ k, k < n → Rep (cutH H D H') (.ref (qs k)) (.lst ds)) → Q (.ref D) H') : CompGo J g tYes te σ H Q := by
 intro D hD
 refine ⟨fun i m σ' H' => m = n - i ∧ i ≤ n ∧ Pσ σ' ∧ Same H H' ∧ ∃ qs : Nat → Addr, H' D = some (.lst (refsN i qs)) ∧ (∀ a b, a < i → b < i → qs a = qs b → a = b) ∧ ∀ k, k < i → Rep (cutH H D H') (.ref (qs k)) (.lst ds), ⟨n, by simp, Nat.zero_le _, h0, Same.new hD, fun _ => 0, ac_, fun a b h => absurd h (Nat.not_lt_zero _), fun k h => absurd h (Nat.not_lt_zero _)⟩, ?_⟩
 rintro i m σ' H' ⟨rfl, hi, hp, hs', qs, hDD, inj, rep⟩
 by_cases hlt : i < n
 ·refine .inr ⟨hgo i H' hlt hs', fun σ2 H2 => Pσ σ2 ∧ Same H H2 ∧ ∃ qs : Nat → Addr, H2 D = some (.lst (refsN (i + 1) qs)) ∧ (∀ a b, a < i + 1 → b < i + 1 → qs a = qs b → a = b) ∧ ∀ k, k < i + 1 → Rep (cutH H D H2) (.ref (qs k)) (.lst ds), fun σ2 H2 ⟨a, b, c⟩ => ⟨n - (i + 1), by omega, rfl, hlt, a, b, c⟩, fun x H'' hy => ?_⟩
  simp only [tYes, if_true]
  refine hs D i x σ' H' H'' hD ⟨_, hDD⟩ hs' hlt hy hp _ fun σ2 q H3 hp2 s3 nq rq => ?_
  have qne : ∀ k, k < i → qs k ≠ q := fun k hk e => by
   obtain ⟨_, _, e1, e2, _⟩ := rep k hk
   cases e1
   have z := (cY_ e2).2.2
   rw [e, nq] at z
   cases z
  refine ⟨_, s3 _ _ hDD, by rw [gK_]; exact small1000 (by omega), hp2, (hs'.trans s3).upd hD, fun k => if k = i then q else qs k, ?_, fun a b ha hb e => ?_, fun k hk => ?_⟩
  ·rw [ac_]
   unfold refsN
   rw [List.range_succ, List.map_append, List.map_cons, List.map_nil]
   simp only [if_true]
   congr 3
   exact List.map_congr_left fun k hk => by simp only [if_neg (Nat.ne_of_lt (List.mem_range.mp hk))]
  ·by_cases h1 : a = i <;> by_cases h2 : b = i
   ·rw [h1, h2]
   ·simp only [h1, if_true, h2, if_false] at e
    exact absurd e.symm (qne b (by omega))
   ·simp only [h2, if_true, h1, if_false] at e
    exact absurd e (qne a (by omega))
   ·simp only [h2, h1, if_false] at e
    exact inj a b (by omega) (by omega) e
  ·rw [hr_]
   by_cases h1 : k = i
   ·simp only [if_pos h1]
    exact rq
   ·simp only [if_neg h1]
    exact Rep.mono (f7_ s3) _ (rep k (by omega))
 ·have e : i = n := by omega
  subst e
  exact .inl ⟨hst H' hs', hd D H' qs hD hs' hDD inj rep⟩
structure Wg (B0 H : Hp) (G : Addr) (qs : Nat → Addr) (F : Nat → Nat → Int) (Bt : Int) (n : Nat) : Prop where
 top : H G = some (.lst (refsN n qs))
 inj : ∀ a b, a < n → b < n → qs a = qs b → a = b
 gq : ∀ i, i < n → G ≠ qs i
 bG : B0 G = none
 bq : ∀ i, i < n → B0 (qs i) = none
 row : ∀ i, i < n → ∃ ys : List V, H (qs i) = some (.lst ys) ∧ ys.length = n ∧ ∀ j, j < n → ∃ a, ys[j]? = some (.ref a) ∧ B0 a = none ∧ H a = some (.tup [.int (nf (F i j) Bt).1, .int (nf (F i j) Bt).2])
def fset (F : Nat → Nat → Int) (i j : Nat) (X : Int) : Nat → Nat → Int := fun a b => if a = i ∧ b = j then X else F a b
theorem Wg.mono {B0 H H' : Hp} {G : Addr} {qs : Nat → Addr} {F : Nat → Nat → Int} {Bt : Int} {n : Nat} (h : Wg B0 H G qs F Bt n) (s : Same H H') : Wg B0 H' G qs F Bt n :=
 ⟨s _ _ h.top, h.inj, h.gq, h.bG, h.bq, fun i hi => let ⟨ys, a, b, c⟩ := h.row i hi; ⟨ys, s _ _ a, b, fun j hj => let ⟨x, d, e, f⟩ := c j hj; ⟨x, d, e, s _ _ f⟩⟩⟩
theorem Wg.set {B0 H : Hp} {G : Addr} {qs : Nat → Addr} {F : Nat → Nat → Int} {Bt X : Int} {n i j : Nat} {ys : List V} {a : Addr} (h : Wg B0 H G qs F Bt n) (hi : i < n) (hj : j < n) (hy : H (qs i) = some (.lst ys)) (ha : H a = some (.tup [.int (nf X Bt).1, .int (nf X Bt).2])) (ba : B0 a = none) : Wg B0 (upd H (qs i) (.lst (ys.set j (.ref a)))) G qs (fset F i j X) Bt n := by
 have tu : ∀ b xs, H b = some (.tup xs) → upd H (qs i) (.lst (ys.set j (.ref a))) b = some (.tup xs) := fun b xs e => by
  rw [af_ (fun c => by rw [c, hy] at e; cases e)]; exact e
 refine ⟨by rw [af_ (h.gq i hi)]; exact h.top, h.inj, h.gq, h.bG, h.bq, fun i' hi' => ?_⟩
 obtain ⟨zs, z1, z2, z3⟩ := h.row i' hi'
 by_cases e : i' = i
 ·subst e
  rw [hy] at z1
  cases z1
  refine ⟨_, ac_, by rw [List.length_set]; exact z2, fun j' hj' => ?_⟩
  by_cases e2 : j' = j
  ·subst e2
   refine ⟨a, by rw [List.getElem?_set_self (by omega)], ba, tu _ _ ?_⟩
   unfold fset
   rw [if_pos ⟨rfl, rfl⟩]
   exact ha
  ·obtain ⟨b, b1, b2, b3⟩ := z3 j' hj'
   refine ⟨b, by rw [List.getElem?_set_ne (Ne.symm e2)]; exact b1, b2, tu _ _ ?_⟩
   unfold fset
   rw [if_neg (fun c => e2 c.2)]
   exact b3
 ·refine ⟨zs, by rw [af_ (fun c => e (h.inj _ _ hi' hi c))]; exact z1, z2, fun j' hj' => ?_⟩
  obtain ⟨b, b1, b2, b3⟩ := z3 j' hj'
  refine ⟨b, b1, b2, tu _ _ ?_⟩
  unfold fset
  rw [if_neg (fun c => e c.1)]
  exact b3
theorem gfour {F : Nat → Nat → Int} (hs : ∀ a b, F a b = F b a) {i j : Nat} (hij : i ≠ j) (X : Int) : fset (fset (fset (fset F i j (F i j - X)) j i (F i j - X)) i i (F i i + X)) j j (F j j + X) = fun a b => F a b + cf a b (i, j, X) := by
 funext a b
 have h1 := hs i j
 unfold fset cf
 simp only
 by_cases a1 : a = i <;> by_cases a2 : a = j <;> by_cases b1 : b = i <;> by_cases b2 : b = j <;> simp only [a1, a2, b1, b2, and_true, and_false, true_and, if_true, if_false, hij, hij.symm, and_self] <;> first | omega | (subst_vars; omega)
theorem hT_ {n i : Nat} (h : i < n) : ixN n (i : Int) = some i := by
 unfold ixN
 rw [if_pos (by omega), if_pos (by omega)]
 simp
theorem Wg.rd {B0 H : Hp} {G : Addr} {qs : Nat → Addr} {F : Nat → Nat → Int} {Bt : Int} {n i j : Nat} (h : Wg B0 H G qs F Bt n) (hi : i < n) (hj : j < n) : ∃ ys a, atI (refsN n qs) (i : Int) = some (.ref (qs i)) ∧ H (qs i) = some (.lst ys) ∧ ys.length = n ∧ atI ys (j : Int) = some (.ref a) ∧ B0 a = none ∧ H a = some (.tup [.int (nf (F i j) Bt).1, .int (nf (F i j) Bt).2]) := by
 obtain ⟨ys, h1, h2, h3⟩ := h.row i hi
 obtain ⟨a, h4, h5, h6⟩ := h3 j hj
 exact ⟨ys, a, mr_ hi, h1, h2, b8_ (by omega) (by rw [Int.toNat_natCast]; exact h4), h5, h6⟩
theorem gL_ {H : Hp} {a : Addr} {p : Int × Int} (h : H a = some (.tup [.int p.1, .int p.2])) : Rep H (.ref a) (dF p) := ⟨a, _, rfl, h, _, _, rfl, rfl, _, _, rfl, rfl, rfl⟩
theorem jE_ {H : Hp} : ∀ {xs : List V} {ds : List Dt}, xs.length = ds.length → (∀ (i : Nat) x d, xs[i]? = some x → ds[i]? = some d → Rep H x d) → Reps H xs ds
 | [], [], _, _ => rfl
 | [], _ :: _, e, _ => (nomatch e)
 | _ :: _, [], e, _ => (nomatch e)
 | x :: xs, d :: ds, e, h => ⟨x, xs, rfl, h 0 x d rfl rfl, jE_ (Nat.succ.inj e) fun i y z a b => h (i + 1) y z a b⟩
def ixL : List Str → Str → Nat
 | [], _ => 0
 | y :: l, x => if y = x then 0 else ixL l x + 1
theorem kf_ : ∀ {l : List Str} {x : Str}, x ∈ l → l[ixL l x]? = some x ∧ ∀ m, m < ixL l x → l[m]? ≠ some x
 | y :: l, x, h => by
  unfold ixL
  by_cases e : y = x
  ·rw [if_pos e, e]
   exact ⟨rfl, fun m hm => absurd hm (Nat.not_lt_zero _)⟩
  ·rw [if_neg e]
   obtain ⟨h1, h2⟩ := kf_ (l := l) ((List.mem_cons.mp h).resolve_left fun z => e z.symm)
   refine ⟨h1, fun m hm => ?_⟩
   cases m with
   | zero => exact fun z => e (Option.some.inj z)
   | succ m => exact h2 m (by omega)
theorem hU_ {l : List Str} (nd : l.Nodup) {x y : Str} {i : Nat} (hx : x ∈ l) (hi : l[i]? = some y) : i = ixL l x ↔ y = x := by
 have h := (kf_ hx).1
 constructor
 ·intro e
  rw [← e, hi] at h
  exact Option.some.inj h
 ·intro e
  rw [e] at hi
  exact (List.getElem?_inj (List.getElem?_eq_some_iff.mp hi).1 nd).mp (hi.trans h.symm)
theorem cf_ix {l : List Str} (nd : l.Nodup) {p q x y : Str} {i j : Nat} {X : Int} (hp : p ∈ l) (hq : q ∈ l) (hi : l[i]? = some x) (hj : l[j]? = some y) : cf i j (ixL l p, ixL l q, X) = cf x y (p, q, X) := by
 unfold cf
 simp only [hU_ nd hp hi, hU_ nd hp hj, hU_ nd hq hi, hU_ nd hq hj]
def nm (N : Net Str) : List Str := N.rows.map (·.1)
theorem mR_ {N : Net Str} {kv : Str × List (End Str)} (h : kv ∈ endsN N) {a : End Str} (ha : a ∈ kv.2) : a.1 ∈ nm N := by
 have h1 := od_ h ha
 obtain ⟨l, hl, hm⟩ := List.mem_flatten.mp h1
 obtain ⟨r, hr, rfl⟩ := List.mem_map.mp hl
 have := (g6_ hm).1
 rw [show a.1 = r.1 from this]
 exact List.mem_map.mpr ⟨r, hr, rfl⟩
theorem kg_ {N : Net Str} (ok : NetOk N) (wo : WOk N) {t : Str × Str × (Int × Int)} (h : t ∈ tiesL N) : t.1 ∈ nm N ∧ t.2.1 ∈ nm N ∧ Ws t.2.2 ∧ Is t.2.2 (Xw (bN N) t.2.2) (bN N) ∧ (Xw (bN N) t.2.2).natAbs ≤ (1000 * bN N).natAbs := by
 obtain ⟨r, hr, rfl⟩ := List.mem_map.mp h
 have hin := (wo.mem r.1).mp (List.mem_map.mpr ⟨r, hr, rfl⟩)
 obtain ⟨kv, kv1, kv2⟩ := List.mem_map.mp (gG_.mpr hin)
 obtain ⟨ea, eb, e2⟩ := hE_ ok kv1
 have eo : endOf N r.1 = kv := by rw [← kv2]; exact hS_ kv1
 have w := wN_ok ok wo hin
 rw [wN_at wo hr] at w
 refine ⟨?_, ?_, w.1, w.2.1, w.2.2⟩
 ·show Rim21.p1 (endOf N r.1) ∈ nm N
  rw [eo]
  have e3 : Rim21.p1 kv = ea.1 := by unfold Rim21.p1; rw [e2]; rfl
  rw [e3]
  exact mR_ kv1 (by rw [e2]; exact List.mem_cons_self)
 ·show Rim21.p2 (endOf N r.1) ∈ nm N
  rw [eo]
  have e3 : Rim21.p2 kv = eb.1 := by unfold Rim21.p2; rw [e2]; rfl
  rw [e3]
  exact mR_ kv1 (by rw [e2]; exact List.mem_cons_of_mem _ List.mem_cons_self)
def tix (N : Net Str) (t : Str × Str × (Int × Int)) : Nat × Nat × Int := (ixL (nm N) t.1, ixL (nm N) t.2.1, Xw (bN N) t.2.2)
theorem sm_ix {N : Net Str} (ok : NetOk N) {x y : Str} {i j : Nat} (hi : (nm N)[i]? = some x) (hj : (nm N)[j]? = some y) : ∀ l : List (Str × Str × (Int × Int)), (∀ t ∈ l, t.1 ∈ nm N ∧ t.2.1 ∈ nm N) → sm (l.map (tix N)) i j = sm (l.map fun t => (t.1, t.2.1, Xw (bN N) t.2.2)) x y
 | [], _ => rfl
 | t :: l, h => by
  have ih := sm_ix ok hi hj l fun z hz => h z (List.mem_cons_of_mem _ hz)
  have ht := h t List.mem_cons_self
  unfold sm at ih ⊢
  rw [List.map_cons, List.map_cons, List.map_cons, List.map_cons, List.sum_cons, List.sum_cons, ih]
  congr 1
  exact cf_ix ok.nd ht.1 ht.2 hi hj
abbrev s_Lwhole_grid : Stmt := stN 49
theorem aR_ : FnScope ["_law_net", "_law_order", "_law_grid", "_law_one", "_law_other", "_law_worth", "_law_i", "_law_j"] ["_law_net"] (defScope s_Lwhole_grid) := ⟨rfl, rfl, rfl, by decide +kernel, rfl, by decide +kernel, by decide +kernel⟩
theorem dt_ : LK s_Lwhole_grid "_law_net" .local := by decide +kernel
theorem bl_ : LK s_Lwhole_grid "_law_order" .cell := by decide +kernel
theorem aw_ : LK s_Lwhole_grid "_law_grid" .local := by decide +kernel
theorem du_ : LK s_Lwhole_grid "_law_one" .local := by decide +kernel
theorem dv_ : LK s_Lwhole_grid "_law_other" .local := by decide +kernel
theorem bm_ : LK s_Lwhole_grid "_law_worth" .local := by decide +kernel
theorem ax_ : LK s_Lwhole_grid "_law_i" .local := by decide +kernel
theorem ay_ : LK s_Lwhole_grid "_law_j" .local := by decide +kernel
theorem cm_ : LK s_Lwhole_grid "_law_add" .globalImplicit := by decide +kernel
theorem d2_ : LK s_Lwhole_grid "_law_less" .globalImplicit := by decide +kernel
theorem d3_ : LK s_Lwhole_grid "_law_ties" .globalImplicit := by decide +kernel
def sp_wg : Sp := fun vs H Q _ => ∃ (v : V) (N : Net Str), vs = [v] ∧ Rep H v (dNet N) ∧ NetOk N ∧ WOk N ∧ ∀ D H', Same H H' → Rep (newH H H') (.ref D) (dG (tbl N)) → Q (.ref D) H'
theorem gX_ (T : Txt K mg) (F : Fn0 K mg "_law_whole_grid" s_Lwhole_grid) (C_Lties : Cal P w K mg base "_law_ties" ["_law_net"] 1 sp_ties) (C_Lless : Cal P w K mg base "_law_less" ["_law_one", "_law_other"] 2 (sp_lw (fun p q => p.1 * q.2 - q.1 * p.2))) (C_Ladd : Cal P w K mg base "_law_add" ["_law_one", "_law_other"] 2 (sp_lw (fun p q => p.1 * q.2 + q.1 * p.2))) : Cal P w K mg base "_law_whole_grid" ["_law_net"] 3 sp_wg := by
 refine aJ_ F aR_ (fun _ _ _ _ _ _ us hl => match us, hl with | [_], _ => rfl) ?len ?body
 case len => rintro vs H Q E ⟨a, b, rfl, _⟩; rfl
 case body =>
  intro f cdv A outer s H vs Q E hr h
  obtain ⟨v, N, rfl, hv, ok, wo, k⟩ := h
  obtain ⟨pn, p0, p1, p2, rs, ws, rfl, hn, h0, h1, r1, h2, r2⟩ := dK_ hv
  have rl : rs.length = N.rows.length := by rw [r1.length, List.length_map]
  have few := ok.few
  refine' ⟨_, ?D, ?R⟩
  case D =>
   refine' an_ ?g1 ?g2
   case' g1 => refine' e6_ (i := 1) aR_.nd rfl bl_ rfl ?g3 rfl
   case' g3 => refine' bY_ (N' := ["_law_row"]) (ix := [none]) rfl rfl (bR_ ?g4) ?g5 (fun _ _ _ => ?g6) (fun _ _ _ => ?g7) (fun _ _ _ => ?g8)
   case g4 => exact (by show scpB (defScope s_Lwhole_grid) ["_law_net", "_law_order", "_law_grid", "_law_one", "_law_other", "_law_worth", "_law_i", "_law_j"] _ _ _ = true; decide +kernel)
   case' g5 => refine' aK_ (K := K) rfl ?g9
   case' g9 => refine' pe_ix ao_ (pv1 0 rfl dt_) ab_ (fun _ _ => rfl)
   case g6 => exact ak_ (i := 0) (by show List.Nodup (["_law_row"] : List Str); decide +kernel) rfl rfl
   case g7 => exact ct_
   case' g8 => refine' pe_ix ao_ (pv1 0 rfl rfl) ab_ (fun _ _ => rfl)
   case' g2 => refine' an_ ?g14 ?g15
   case' g14 => refine' f5_ (i := 2) (N' := ["_law_i", "_law_order"]) (ix := [none, some 1]) rfl rfl aR_.nd rfl aw_ rfl (bR_ ?g16) ?g17 (fun _ _ _ => ?g18) (fun _ _ _ => ?g19) (fun _ _ _ => ?g20)
   case g16 => exact (by show scpB (defScope s_Lwhole_grid) ["_law_net", "_law_order", "_law_grid", "_law_one", "_law_other", "_law_worth", "_law_i", "_law_j"] _ _ _ = true; decide +kernel)
   case' g17 => refine' aK_ (K := K) rfl (pvc 1 rfl bl_)
   case g18 => exact ak_ (i := 0) (by show List.Nodup (["_law_i", "_law_order"] : List Str); decide +kernel) rfl rfl
   case g19 => exact ct_
   case' g20 => refine' bY_ (N' := ["_law_j"]) (ix := [none]) rfl rfl (bR_ ?g22) ?g23 (fun _ _ _ => ?g24) (fun _ _ _ => ?g25) (fun _ _ _ => ?g26)
   case g22 => exact (by show scpB (relS _ (defScope s_Lwhole_grid)) ["_law_i", "_law_order"] _ _ _ = true; decide +kernel)
   case' g23 => refine' aK_ (K := K) rfl (pvc 1 rfl rfl)
   case g24 => exact ak_ (i := 0) (by show List.Nodup (["_law_j"] : List Str); decide +kernel) rfl rfl
   case g25 => exact ct_
   case' g26 => refine' aH_ ?g28
   case' g28 => refine' pa_c ab_ ?g30
   case' g30 => refine' pa_c ab_ aa_
   case' g15 => refine' ad_ ?g33 ?g34
   case' g33 => refine' bg_ PassesOwn.never rfl ?g35 ?g36 ?g37
   case' g35 => refine' aK_ (K := K) rfl ?g38
   case' g38 => refine' aj_ C_Lties (hr.mono (by decide)) d3_ ?g39
   case' g39 => refine' pa_c (pv1 0 rfl dt_) aa_
   case' g36 => refine' bc_ (K := K) (n := 3) rfl rfl ?g42
   case' g42 => refine' ap_ ?g43 ?g44
   case g43 => exact ak_ (i := 3) aR_.nd rfl du_
   case' g44 => refine' ap_ ?g45 ?g46
   case g45 => exact ak_ (i := 4) aR_.nd rfl dv_
   case' g46 => refine' ap_ ?g47 ba_
   case g47 => exact ak_ (i := 5) aR_.nd rfl bm_
   case' g37 => refine' an_ ?g49 ?g50
   case' g49 => refine' ai_ (i := 6) aR_.nd rfl ax_ ?g51
   case' g51 => refine' pe_bm PySem.F.plainAttrs_list PySem.F.slot_list_index PySem.F.type_list_index j1_ (pvc 1 rfl bl_) ?g53
   case' g53 => refine' pa_c (pv1 3 rfl du_) aa_
   case' g50 => refine' an_ ?g56 ?g57
   case' g56 => refine' ai_ (i := 7) aR_.nd rfl ay_ ?g58
   case' g58 => refine' pe_bm PySem.F.plainAttrs_list PySem.F.slot_list_index PySem.F.type_list_index j1_ (pvc 1 rfl bl_) ?g60
   case' g60 => refine' pa_c (pv1 4 rfl dv_) aa_
   case' g57 => refine' ae_ ?g63
   case' g63 => refine' ps_if ?g64 ?g65 aL_
   case' g64 => refine' az_ op_ne (pv1 6 rfl ax_) (pv1 7 rfl ay_) (nomark _)
   case' g65 => refine' an_ ?g69 ?g70
   case' g69 => refine' dw_ ?g71 (h1_ ?g72 (pv1 7 rfl ay_) ey_)
   case' g71 => refine' aj_ C_Lless (hr.mono (by decide)) d2_ ?g74
   case' g74 => refine' pa_c ?g75 ?g76
   case' g75 => refine' pe_ix ah_ ?g77 (pv1 7 rfl ay_) (fun _ _ => rfl)
   case' g77 => refine' pe_ix ah_ (pv1 2 rfl aw_) (pv1 6 rfl ax_) (fun _ _ => rfl)
   case' g76 => refine' pa_c (pv1 5 rfl bm_) aa_
   case' g72 => refine' pe_ix ah_ (pv1 2 rfl aw_) (pv1 6 rfl ax_) (fun _ _ => rfl)
   case' g70 => refine' an_ ?g85 ?g86
   case' g85 => refine' dw_ ?g87 (h1_ ?g88 (pv1 6 rfl ax_) ey_)
   case' g87 => refine' pe_ix ah_ ?g90 (pv1 7 rfl ay_) (fun _ _ => rfl)
   case' g90 => refine' pe_ix ah_ (pv1 2 rfl aw_) (pv1 6 rfl ax_) (fun _ _ => rfl)
   case' g88 => refine' pe_ix ah_ (pv1 2 rfl aw_) (pv1 7 rfl ay_) (fun _ _ => rfl)
   case' g86 => refine' an_ ?g96 ?g97
   case' g96 => refine' dw_ ?g98 (h1_ ?g99 (pv1 6 rfl ax_) ey_)
   case' g98 => refine' aj_ C_Ladd (hr.mono (by decide)) cm_ ?g101
   case' g101 => refine' pa_c ?g102 ?g103
   case' g102 => refine' pe_ix ah_ ?g104 (pv1 6 rfl ax_) (fun _ _ => rfl)
   case' g104 => refine' pe_ix ah_ (pv1 2 rfl aw_) (pv1 6 rfl ax_) (fun _ _ => rfl)
   case' g103 => refine' pa_c (pv1 5 rfl bm_) aa_
   case' g99 => refine' pe_ix ah_ (pv1 2 rfl aw_) (pv1 6 rfl ax_) (fun _ _ => rfl)
   case' g97 => refine' ae_ ?g112
   case' g112 => refine' dw_ ?g113 (h1_ ?g114 (pv1 7 rfl ay_) ey_)
   case' g113 => refine' aj_ C_Ladd (hr.mono (by decide)) cm_ ?g116
   case' g116 => refine' pa_c ?g117 ?g118
   case' g117 => refine' pe_ix ah_ ?g119 (pv1 7 rfl ay_) (fun _ _ => rfl)
   case' g119 => refine' pe_ix ah_ (pv1 2 rfl aw_) (pv1 7 rfl ay_) (fun _ _ => rfl)
   case' g118 => refine' pa_c (pv1 5 rfl bm_) aa_
   case' g114 => refine' pe_ix ah_ (pv1 2 rfl aw_) (pv1 7 rfl ay_) (fun _ _ => rfl)
   case' g34 => refine' ae_ ?g127
   case' g127 => refine' aq_ (pv1 2 rfl aw_)
  case R =>
   walk_at "rd"
   refine ⟨_, hn, _, atI_1, p1, rfl, ⟨_, .inl (.inl h1)⟩, ?_⟩
   refine bL_ (n := N.rows.length) (B := fun _ => none) (Pσ := fun σ => ∃ e, σ = [e]) (ds := (nm N).map dS) (fun b o e => by cases e) ⟨_, rfl⟩ (by unfold nm; simp) (by omega) (fun i H' hi s' => ⟨rs, rs[i]'(by omega), .inl (.inl (s' _ _ h1)), List.getElem?_eq_getElem _⟩) (fun H' s' => ⟨rs, .inl (.inl (s' _ _ h1)), by omega⟩) ?_ ?_
   ·rintro D i x d σ' H2 H2' hD hDo hs2 hi hdi ⟨rfl, hy⟩ ⟨e, rfl⟩ R kR
    have hx := hy _ (.inl (.inl (hs2 _ _ h1)))
    obtain ⟨r, q, l, hr1, rfl, hq, hl⟩ := eO_ r1 hx
    have hd : d = dS r.1 := by
     unfold nm at hdi
     rw [List.getElem?_map, List.getElem?_map, hr1] at hdi
     exact (Option.some.inj hdi).symm
    walk_at "rd"
    refine ⟨_, hs2 _ _ hq, _, atI_0, kR _ _ _ ⟨_, rfl⟩ (Same.refl _) ?_⟩
    rw [hd]
    exact rfl
   ·intro D1 H1 hD1 s1 rep1
    obtain ⟨_, us, e0, hu', hus⟩ := id rep1
    cases e0
    rw [gv_ hus] at hu'
    have ho : H1 D1 = some (.lst ((nm N).map V.str)) := (aP_ hu').2
    walk_at "rd"
    have nl : (nm N).length = N.rows.length := by unfold nm; rw [List.length_map]
    generalize hnn : N.rows.length = n at *
    have zrow : ∀ i (hi : i < n), ((nm N).map V.str)[i]? = some (.str ((nm N)[i]'(by omega))) := fun i hi => by rw [List.getElem?_map, List.getElem?_eq_getElem]; rfl
    refine ⟨⟨_, .inl (.inl ho)⟩, lO_ n (fun σ => ∃ e, σ = [e, some (.ref D1)]) (List.replicate n (dF (0, 1))) ⟨_, rfl⟩ (by omega) (fun i H' hi s' => ⟨_, _, .inl (.inl (s' _ _ ho)), zrow i hi⟩) (fun H' s' => ⟨_, .inl (.inl (s' _ _ ho)), by rw [List.length_map]; omega⟩) ?_ ?_⟩
    ·rintro D i x σ' H2 H2' hD ⟨oD, hDo⟩ hs2 hi ⟨rfl, hy⟩ ⟨e, rfl⟩ R kR
     have ho2 := hs2 _ _ ho
     walk_at "rd"
     refine ⟨⟨_, .inl (.inl ho2)⟩, ?_⟩
     refine bL_ (n := n) (B := H2') (Pσ := fun σ => ∃ e, σ = [e]) (ds := List.replicate n (dF (0, 1))) (Same.refl _) ⟨_, rfl⟩ (by simp) (by omega) (fun i H' hi s' => ⟨_, _, .inl (.inl (s' _ _ ho2)), zrow i hi⟩) (fun H' s' => ⟨_, .inl (.inl (s' _ _ ho2)), by rw [List.length_map]; omega⟩) ?_ ?_
     ·rintro D2 j x d σ' H3 H3' hD2 ⟨oD2, hDo2⟩ hs3 hj hdj ⟨rfl, hy⟩ ⟨e, rfl⟩ R2 kR2
      have hd : d = dF (0, 1) := (List.getElem?_replicate.symm.trans hdj |> fun z => by
       rw [if_pos hj] at z
       exact (Option.some.inj z).symm)
      walk_at "rd"
      refine ⟨by decide, fun t nt => kR2 _ _ _ ⟨_, rfl⟩ (Same.new nt) ?_⟩
      have tD : t ≠ D2 := (ag_ hDo2 nt).symm
      rw [hd]
      exact ⟨t, _, rfl, by rw [bw_ tD (hs3.free nt)]; exact ac_, _, _, rfl, rfl, _, _, rfl, rfl, rfl⟩
     ·intro D2 H3 hD2 s3 rep3
      refine kR _ _ _ ⟨_, rfl⟩ s3 hD2 (Rep.mono (fun b o h => ?_) _ rep3)
      obtain ⟨b1, b2⟩ := aP_ h
      rw [bw_ (ag_ hDo b1).symm (hs2.free b1)]
      exact b2
    ·intro G H2 qs hG s2 hGG inj rep2
     have wg : Wg H1 H2 G qs (sm (([] : List (Str × Str × (Int × Int))).map (tix N))) (bN N) n := by
      refine ⟨hGG, inj, fun i hi e => ?_, hG, fun i hi => ?_, fun i hi => ?_⟩
      ·obtain ⟨_, _, e1, e2, _⟩ := rep2 i hi
       cases e1
       exact (cY_ e2).1 e.symm
      ·obtain ⟨_, _, e1, e2, _⟩ := rep2 i hi
       cases e1
       exact (cY_ e2).2.1
      ·obtain ⟨_, ys, e1, e2, e3⟩ := rep2 i hi
       cases e1
       have yl : ys.length = n := by rw [e3.length, List.length_replicate]
       refine ⟨ys, (cY_ e2).2.2, yl, fun j hj => ?_⟩
       obtain ⟨x, hx, hr⟩ := e3.get (i := j) (d := dF (0, 1)) (by rw [List.getElem?_replicate, if_pos hj])
       obtain ⟨a, rfl, ha⟩ := bC_ hr
       have bp := (hd_ ok wo).1
       refine ⟨a, hx, (cY_ ha).2.1, ?_⟩
       rw [show sm (([] : List (Str × Str × (Int × Int))).map (tix N)) i j = 0 from rfl, hG_ (by omega)]
       exact (cY_ ha).2.2
     have s02 := s1.trans s2
     walk_at "rd"
     refine ⟨_, N, rfl, Rep.mono s02 _ hv, ok, wo, fun TL H3 s3 nTL rep3 => ?_⟩
     obtain ⟨_, xs, e9, hTL, rxs⟩ := rep3
     cases e9
     try walk_at "rd"
     have qD1 : ∀ i, i < n → D1 ≠ qs i := fun i hi e => by
      have z := wg.bq i hi
      rw [← e, ho] at z
      cases z
     have qTL : ∀ i, i < n → TL ≠ qs i := fun i hi e => by
      obtain ⟨ys, z, _⟩ := wg.row i hi
      rw [← e, nTL] at z
      cases z
     have qtu : ∀ b xs, H3 b = some (.tup xs) → ∀ i, i < n → b ≠ qs i := fun b xs hb i hi e => by
      obtain ⟨ys, z, _⟩ := wg.row i hi
      rw [e, s3 _ _ z] at hb
      cases hb
     have tl15 : (tiesL N).length ≤ 15 := by unfold tiesL; rw [List.length_map]; exact ok.wl
     have xl : xs.length = (tiesL N).length := by rw [rxs.length, List.length_map]
     obtain ⟨bp, ble⟩ := hd_ ok wo
     refine ⟨⟨_, .inl (.inl hTL)⟩, dT_ (xs := xs) (fun m σ Hx => ∃ (e3 e4 e5 e6 e7 : Option V), σ = [some (.ref pn), some (.ref D1), some (.ref G), e3, e4, e5, e6, e7] ∧ Wg H1 Hx G qs (sm (((tiesL N).take m).map (tix N))) (bN N) n ∧ ∀ b o, H3 b = some o → (∀ i, i < n → b ≠ qs i) → Hx b = some o) ⟨_, _, _, _, _, rfl, wg.mono s3, fun b o h _ => h⟩ ?_ ?_ ?_⟩
     ·rintro m σ Hx hm ⟨e3, e4, e5, e6, e7, rfl, wx, kp⟩
      exact .inl (.inl (kp _ _ hTL qTL))
     ·rintro m x σ Hx hx kk kb hk hbk G1 hG1 ⟨e3, e4, e5, e6, e7, rfl, wx, kp⟩
      obtain ⟨d, hd, hrep⟩ := rxs.of_get hx
      have mlt : m < (tiesL N).length := by rw [← xl]; exact (List.getElem?_eq_some_iff.mp hx).1
      have htm := List.getElem?_eq_getElem mlt
      rw [List.getElem?_map, htm] at hd
      cases hd
      have tin := kg_ ok wo (List.getElem_mem mlt)
      have tk : ((tiesL N).take (m + 1)).map (tix N) = ((tiesL N).take m).map (tix N) ++ [tix N (tiesL N)[m]] := by
       rw [List.take_succ, htm, List.map_append]
       rfl
      rw [tk] at hk
      generalize (tiesL N)[m] = t at *
      obtain ⟨tp, tq, tw⟩ := t
      obtain ⟨ta, _, rfl, hta, _, _, f1, g1, _, _, f2, g2, y3, _, f3, g3, f4⟩ := hrep
      subst f4 f3 f2 f1
      cases g1
      cases g2
      obtain ⟨wa, rfl, hwa⟩ := bC_ g3
      obtain ⟨tp1, tq1, tws, tis, tle⟩ := tin
      obtain ⟨ip1, ip2⟩ := kf_ tp1
      obtain ⟨iq1, iq2⟩ := kf_ tq1
      have hta' := kp _ _ hta (qtu _ _ hta)
      have hwa' := kp _ _ hwa (qtu _ _ hwa)
      have ho' := kp _ _ (s3 _ _ (s2 _ _ ho)) qD1
      have hp := (List.getElem?_eq_some_iff.mp ip1).1
      have hq := (List.getElem?_eq_some_iff.mp iq1).1
      rw [nl] at hp hq
      have etx : tix N (tp, tq, tw) = (ixL (nm N) tp, ixL (nm N) tq, Xw (bN N) tw) := rfl
      rw [etx] at hk
      clear etx
      generalize ixL (nm N) tp = i at *
      generalize ixL (nm N) tq = j at *
      have tle' : Is tw (Xw (bN N) tw) (bN N) := tis
      generalize Xw (bN N) tw = X at *
      walk_at "rd"
      refine ⟨_, SqT.of hta', rfl, _, _, rfl, _, _, rfl, _, _, rfl, rfl, ?_⟩
      try walk_at "rd"
      refine ⟨.inl ⟨_, .inl (.inl ho')⟩, nm N, ho', by omega, i, ip1, ip2, ?_⟩
      walk_at "rd"
      refine ⟨.inl ⟨_, .inl (.inl ho')⟩, nm N, ho', by omega, j, iq1, iq2, ?_⟩
      walk_at "rd"
      refine ite2 (fun hne => ?_) (fun he => ?_)
      ·have hij : i ≠ j := fun e => hne (by rw [e])
       walk_at "rd"
       have hmm := sm_le (m := (1000 * bN N).natAbs) (((tiesL N).take m).map (tix N)) (fun e he => by
        obtain ⟨t, ht, rfl⟩ := List.mem_map.mp he
        exact (kg_ ok wo (List.mem_of_mem_take ht)).2.2.2.2)
       have hlm : (((tiesL N).take m).map (tix N)).length ≤ 15 := by rw [List.length_map, List.length_take]; omega
       have hsy := np_ (((tiesL N).take m).map (tix N))
       have hsn : (sm (((tiesL N).take m).map (tix N) ++ [(i, j, X)])) = fun a b => sm (((tiesL N).take m).map (tix N)) a b + cf a b (i, j, X) := by
        funext a b
        exact jj_ _ _ _ _
       rw [hsn] at hk
       clear hsn
       generalize hE : ((tiesL N).take m).map (tix N) = E at *
       have sb : ∀ a b, Low (nf (sm E a b) (bN N)) ∧ Builtin.Int.intBits (nf (sm E a b) (bN N)).1 ≤ 200 ∧ Builtin.Int.intBits (nf (sm E a b) (bN N)).2 ≤ 200 := fun a b => sm_of bp ble (show 4 * E.length ≤ 62 by omega) (hmm a b)
       have swt : Sm tw := Sm.ws tws
       have k1 : Same H1 Hx := fun b o h => kp b o (s3 _ _ (s2 _ _ h)) fun i hi e => by
        have z := wg.bq i hi
        rw [← e, h] at z
        cases z
       generalize sm E = F at *
       obtain ⟨ys, aa, g2, g3, g4, g5, g6, g7⟩ := wx.rd hp hq
       refine ⟨_, wx.top, _, g2, _, rfl, _, g3, _, g5, _, _, nf (F i j) (bN N), tw, rfl, gL_ g7, gL_ (kp _ _ hwa (qtu _ _ hwa)), (sb i j).1.pos, tws.1.pos, by have := (sb i j).2.1; omega, by have := (sb i j).2.2; omega, by have := swt.top; omega, by have := swt.bot; omega, fun z Ha sz rz => ?_⟩
       obtain ⟨_, ez, hz⟩ := bC_ rz
       cases ez
       obtain ⟨nz, hz⟩ := aP_ hz
       rw [(is_nf (t := F i j) (b := bN N) (by omega)).minusB tis] at hz
       refine ⟨_, sz _ _ wx.top, _, g2, _, rfl, _, sz _ _ g3, _, hT_ (by omega), ?_⟩
       have wa1 := (wx.mono sz).set hp hq (sz _ _ g3) hz (k1.free nz)
       have kpa : ∀ b o, H3 b = some o → (∀ i, i < n → b ≠ qs i) → upd Ha (qs i) (HO.lst (ys.set j (V.ref z))) b = some o := fun b o h hb => by rw [af_ (hb _ hp)]; exact sz _ _ (kp b o h hb)
       have k1a : Same H1 (upd Ha (qs i) (HO.lst (ys.set j (V.ref z)))) := (k1.trans sz).upd (wx.bq i hp)
       generalize upd Ha (qs i) (HO.lst (ys.set j (V.ref z))) = Ha' at *
       clear g2 g3 g4 g5 g6 g7 hz nz rz sz
       walk_at "rd"
       obtain ⟨ys, aa, g2, g3, g4, g5, g6, g7⟩ := wa1.rd hp hq
       obtain ⟨zs, _, q2, q3, q4, _, _, _⟩ := wa1.rd hq hp
       refine ⟨_, wa1.top, _, g2, _, rfl, _, g3, _, g5, _, wa1.top, _, q2, _, rfl, _, q3, _, hT_ (by omega), ?_⟩
       have wb := wa1.set (X := F i j - X) hq hp q3 (by
        rw [g7]
        unfold fset
        rw [if_pos ⟨rfl, rfl⟩]) g6
       have kpb : ∀ b o, H3 b = some o → (∀ i, i < n → b ≠ qs i) → upd Ha' (qs j) (HO.lst (zs.set i (V.ref aa))) b = some o := fun b o h hb => by rw [af_ (hb _ hq)]; exact kpa b o h hb
       have k1b : Same H1 (upd Ha' (qs j) (HO.lst (zs.set i (V.ref aa)))) := k1a.upd (wx.bq j hq)
       generalize upd Ha' (qs j) (HO.lst (zs.set i (V.ref aa))) = Hb at *
       clear g2 g3 g4 g5 g6 g7 q2 q3 q4
       walk_at "rd"
       obtain ⟨ys, aa, g2, g3, g4, g5, g6, g7⟩ := wb.rd hp hp
       refine ⟨_, wb.top, _, g2, _, rfl, _, g3, _, g5, _, _, nf (F i i) (bN N), tw, rfl, gL_ (show Hb aa = some (.tup [.int (nf (F i i) (bN N)).1, .int (nf (F i i) (bN N)).2]) by rw [g7]; unfold fset; rw [if_neg (by omega), if_neg (by omega)]), gL_ (kpb _ _ hwa (qtu _ _ hwa)), (sb i i).1.pos, tws.1.pos, by have := (sb i i).2.1; omega, by have := (sb i i).2.2; omega, by have := swt.top; omega, by have := swt.bot; omega, fun z Hc sz rz => ?_⟩
       obtain ⟨_, ez, hz⟩ := bC_ rz
       cases ez
       obtain ⟨nz, hz⟩ := aP_ hz
       rw [(is_nf (t := F i i) (b := bN N) (by omega)).plusB tis] at hz
       refine ⟨_, sz _ _ wb.top, _, g2, _, rfl, _, sz _ _ g3, _, hT_ (by omega), ?_⟩
       have wc := (wb.mono sz).set hp hp (sz _ _ g3) hz (k1b.free nz)
       have kpc : ∀ b o, H3 b = some o → (∀ i, i < n → b ≠ qs i) → upd Hc (qs i) (HO.lst (ys.set i (V.ref z))) b = some o := fun b o h hb => by rw [af_ (hb _ hp)]; exact sz _ _ (kpb b o h hb)
       have k1c : Same H1 (upd Hc (qs i) (HO.lst (ys.set i (V.ref z)))) := (k1b.trans sz).upd (wx.bq i hp)
       generalize upd Hc (qs i) (HO.lst (ys.set i (V.ref z))) = Hc' at *
       clear g2 g3 g4 g5 g6 g7 hz nz rz sz
       walk_at "rd"
       obtain ⟨ys, aa, g2, g3, g4, g5, g6, g7⟩ := wc.rd hq hq
       refine ⟨_, wc.top, _, g2, _, rfl, _, g3, _, g5, _, _, nf (F j j) (bN N), tw, rfl, gL_ (show Hc' aa = some (.tup [.int (nf (F j j) (bN N)).1, .int (nf (F j j) (bN N)).2]) by rw [g7]; unfold fset; rw [if_neg (by omega), if_neg (by omega), if_neg (by omega)]), gL_ (kpc _ _ hwa (qtu _ _ hwa)), (sb j j).1.pos, tws.1.pos, by have := (sb j j).2.1; omega, by have := (sb j j).2.2; omega, by have := swt.top; omega, by have := swt.bot; omega, fun z Hd sz rz => ?_⟩
       obtain ⟨_, ez, hz⟩ := bC_ rz
       cases ez
       obtain ⟨nz, hz⟩ := aP_ hz
       rw [(is_nf (t := F j j) (b := bN N) (by omega)).plusB tis] at hz
       refine ⟨_, sz _ _ wc.top, _, g2, _, rfl, _, sz _ _ g3, _, hT_ (by omega), ?_⟩
       have wd := (wc.mono sz).set hq hq (sz _ _ g3) hz (k1c.free nz)
       have kpd : ∀ b o, H3 b = some o → (∀ i, i < n → b ≠ qs i) → upd Hd (qs j) (HO.lst (ys.set j (V.ref z))) b = some o := fun b o h hb => by rw [af_ (hb _ hq)]; exact sz _ _ (kpc b o h hb)
       have k1d : Same H1 (upd Hd (qs j) (HO.lst (ys.set j (V.ref z)))) := (k1c.trans sz).upd (wx.bq j hq)
       generalize upd Hd (qs j) (HO.lst (ys.set j (V.ref z))) = Hd' at *
       clear g2 g3 g4 g5 g6 g7 hz nz rz sz
       rw [gfour hsy hij X] at wd
       exact hk _ _ ⟨_, _, _, _, _, rfl, wd, kpd⟩
      ·have hij : i = j := by omega
       subst hij
       have hsn : (sm (((tiesL N).take m).map (tix N) ++ [(i, i, X)])) = sm (((tiesL N).take m).map (tix N)) := by
        funext a b
        rw [jj_, nq_, Int.add_zero]
       rw [hsn] at hk
       exact hk _ _ ⟨_, _, _, _, _, rfl, wx, kp⟩
     ·rintro σ Hx ⟨e3, e4, e5, e6, e7, rfl, wx, kp⟩
      walk_at "rd"
      rw [xl, List.take_length] at wx
      have sm0 : ∀ i j x y, (nm N)[i]? = some x → (nm N)[j]? = some y → sm ((tiesL N).map (tix N)) i j = sm (ties N) x y := fun i j x y h1 h2 => by
       rw [sm_ix ok h1 h2 _ fun t ht => ⟨(kg_ ok wo ht).1, (kg_ ok wo ht).2.1⟩]
       exact (nn_ (lM_ wo) x y).symm
      have k1 : Same H1 Hx := fun b o h => kp b o (s3 _ _ (s2 _ _ h)) fun i hi e => by
       have z := wg.bq i hi
       rw [← e, h] at z
       cases z
      have nw : ∀ b o, H1 b = none → Hx b = some o → newH H Hx b = some o := fun b o h1 h2 => by
       rw [bZ_ (s1.free h1)]
       exact h2
      refine k G Hx (s1.trans k1) ⟨G, _, rfl, nw _ _ wx.bG wx.top, ?_⟩
      have tlen : (tbl N).length = n := by unfold tbl; rw [List.length_map, List.length_map]; exact hnn
      refine jE_ (by rw [gK_, List.length_map, tlen]) fun i x d hx hd => ?_
      have hi : i < n := by have := (List.getElem?_eq_some_iff.mp hx).1; rwa [gK_] at this
      have ei : (nm N)[i]? = some ((nm N)[i]'(by omega)) := List.getElem?_eq_getElem _
      obtain ⟨ys, r1', r2', r3'⟩ := wx.row i hi
      have hxi : x = .ref (qs i) := by
       unfold refsN at hx
       rw [List.getElem?_map, List.getElem?_range hi] at hx
       exact (Option.some.inj hx).symm
      have hdi : d = dRow ((nm N).map fun y => nf (sm (ties N) ((nm N)[i]'(by omega)) y) (bN N)) := by
       rw [List.getElem?_map] at hd
       unfold tbl at hd
       rw [List.getElem?_map] at hd
       rw [show (N.rows.map (·.1))[i]? = some ((nm N)[i]'(by omega)) from ei] at hd
       exact (Option.some.inj hd).symm
      rw [hxi, hdi]
      refine ⟨qs i, ys, rfl, nw _ _ (wx.bq i hi) r1', jE_ (by rw [List.length_map, List.length_map, r2']; omega) fun j y e hy he => ?_⟩
      have hj : j < n := by have := (List.getElem?_eq_some_iff.mp hy).1; omega
      have ej : (nm N)[j]? = some ((nm N)[j]'(by omega)) := List.getElem?_eq_getElem _
      obtain ⟨a, q1, q2, q3⟩ := r3' j hj
      rw [q1] at hy
      cases hy
      rw [List.getElem?_map, List.getElem?_map, ej] at he
      cases he
      refine gL_ (nw _ _ q2 ?_)
      show Hx a = some (.tup [.int (nf (sm (ties N) ((nm N)[i]'(by omega)) ((nm N)[j]'(by omega))) (bN N)).1, .int (nf (sm (ties N) ((nm N)[i]'(by omega)) ((nm N)[j]'(by omega))) (bN N)).2])
      rw [← sm0 i j _ _ ei ej]
      exact q3
mutual
theorem eY_ : ∀ d : Dt, deq d d = some true
 | .non => rfl
 | .bl a => by simp [deq]
 | .int a => by simp [deq]
 | .str a => by simp [deq]
 | .tup xs => gM_ xs
 | .lst xs => by rw [deq, if_pos rfl]; exact gM_ xs
theorem gM_ : ∀ ds : List Dt, deqs ds ds = some true
 | [] => rfl
 | d :: ds => by rw [deqs, eY_ d, gM_ ds]; rfl
end
theorem ep_ {α : Type} {f : α → Dt} {n : Nat} (h : ∀ a, dep (f a) ≤ n) : ∀ l : List α, deps (l.map f) ≤ n
 | [] => Nat.zero_le _
 | a :: l => Nat.max_le.mpr ⟨h a, ep_ h l⟩
theorem nI_ (N : Net Str) : dep (dNet N) ≤ 60 := by
 have h1 : dep (.lst (N.posts.map dS)) ≤ 5 := Nat.le_trans (Nat.succ_le_succ (ep_ (f := dS) (n := 1) (fun a => by simp [dS, dep]) _)) (by decide)
 have h2 : dep (.lst (N.rows.map dRw)) ≤ 5 := Nat.le_trans (Nat.succ_le_succ (ep_ (f := dRw) (n := 3) (fun r => by
  have : dep (.lst (r.2.map dS)) ≤ 2 := Nat.succ_le_succ (ep_ (f := dS) (n := 1) (fun a => by simp [dS, dep]) _)
  show max 0 (max (dep (.lst (r.2.map dS))) 0) + 1 ≤ 3
  omega) _)) (by decide)
 have h3 : dep (.lst (N.worths.map dWo)) ≤ 5 := Nat.le_trans (Nat.succ_le_succ (ep_ (f := dWo) (n := 3) (fun r => by simp [dWo, dep, deps]) _)) (by decide)
 show max (dep (.lst (N.posts.map dS))) (max (dep (.lst (N.rows.map dRw))) (max (dep (.lst (N.worths.map dWo))) 0)) + 1 ≤ 60
 omega
abbrev s_Lcopy : Stmt := stN 40
theorem ms_ : FnScope ["_law_net"] ["_law_net"] (defScope s_Lcopy) := ⟨rfl, rfl, rfl, by decide +kernel, rfl, by decide +kernel, by decide +kernel⟩
theorem fr_ : LK s_Lcopy "_law_net" .local := by decide +kernel
theorem eZ_ : LK s_Lcopy "list" .globalImplicit := by decide +kernel
def sp_copy : Sp := fun vs H Q _ => ∃ (v : V) (N : Net Str), vs = [v] ∧ Rep H v (dNet N) ∧ NetOk N ∧ ∀ v' H', Same H H' → Rep H' v' (dNet N) → Q v' H'
theorem mt_ (T : Txt K mg) (F : Fn0 K mg "_law_copy" s_Lcopy) : Cal P w K mg base "_law_copy" ["_law_net"] 1 sp_copy := by
 refine aJ_ F ms_ (fun _ _ _ _ _ _ us hl => match us, hl with | [_], _ => rfl) ?len ?body
 case len => rintro vs H Q E ⟨a, b, rfl, _⟩; rfl
 case body =>
  intro f cdv A outer s H vs Q E hr h
  obtain ⟨v, N, rfl, hv, ok, k⟩ := h
  obtain ⟨pn, p0, p1, p2, rs, ws, rfl, hn, h0, h1, r1, h2, r2⟩ := dK_ hv
  have rl : rs.length = N.rows.length := by rw [r1.length, List.length_map]
  have few := ok.few
  refine' ⟨_, ?D, ?R⟩
  case D =>
   refine' ae_ ?g1
   case' g1 => refine' aq_ ?g2
   case' g2 => refine' aH_ ?g3
   case' g3 => refine' pa_c ?g4 ?g5
   case' g4 => refine' dR_ e7_ eZ_ T.n_list e5_ ?g6
   case' g6 => refine' pa_c ?g7 aa_
   case' g7 => refine' pe_ix ao_ (pv1 0 rfl fr_) ab_ (fun _ _ => rfl)
   case' g5 => refine' pa_c ?g11 ?g12
   case' g11 => refine' bY_ (N' := ["_law_point", "_law_wires"]) (ix := [none, none]) rfl rfl (bR_ ?g13) ?g14 (fun _ _ _ => ?g15) (fun _ _ _ => ?g16) (fun _ _ _ => ?g17)
   case g13 => exact (by show scpB (defScope s_Lcopy) ["_law_net"] _ _ _ = true; decide +kernel)
   case' g14 => refine' aK_ (K := K) rfl ?g18
   case' g18 => refine' pe_ix ao_ (pv1 0 rfl fr_) ab_ (fun _ _ => rfl)
   case' g15 => refine' bc_ (K := K) (n := 2) rfl rfl ?g21
   case' g21 => refine' ap_ ?g22 ?g23
   case g22 => exact ak_ (i := 0) (by show List.Nodup (["_law_point", "_law_wires"] : List Str); decide +kernel) rfl rfl
   case' g23 => refine' ap_ ?g24 ba_
   case g24 => exact ak_ (i := 1) (by show List.Nodup (["_law_point", "_law_wires"] : List Str); decide +kernel) rfl rfl
   case g16 => exact ct_
   case' g17 => refine' aH_ ?g26
   case' g26 => refine' pa_c (pv1 0 rfl rfl) ?g28
   case' g28 => refine' pa_c ?g29 aa_
   case' g29 => refine' dR_ e7_ rfl T.n_list e5_ ?g31
   case' g31 => refine' pa_c (pv1 1 rfl rfl) aa_
   case' g12 => refine' pa_c ?g34 aa_
   case' g34 => refine' dR_ e7_ eZ_ T.n_list e5_ ?g36
   case' g36 => refine' pa_c ?g37 aa_
   case' g37 => refine' pe_ix ao_ (pv1 0 rfl fr_) ab_ (fun _ _ => rfl)
  case R =>
   walk_at "rd"
   refine ⟨_, hn, _, atI_0, p0, rfl, _, .inl h0, fun c0 n0 => ?_⟩
   have S1 : Same H (upd H c0 (HO.lst (N.posts.map V.str))) := Same.new n0
   have hc0 := ac_ (H := H) (a := c0) (o := HO.lst (N.posts.map V.str))
   generalize upd H c0 (HO.lst (N.posts.map V.str)) = H1 at *
   refine ⟨_, S1 _ _ hn, _, atI_1, p1, rfl, ⟨_, .inl (.inl (S1 _ _ h1))⟩, ?_⟩
   have h11 := S1 _ _ h1
   refine bL_ (n := N.rows.length) (B := fun _ => none) (Pσ := fun σ => ∃ e e', σ = [e, e']) (ds := N.rows.map dRw) (fun b o e => by cases e) ⟨_, _, rfl⟩ (by simp) (by omega) (fun i H' hi s' => ⟨rs, rs[i]'(by omega), .inl (.inl (s' _ _ h11)), List.getElem?_eq_getElem _⟩) (fun H' s' => ⟨rs, .inl (.inl (s' _ _ h11)), by omega⟩) ?_ ?_
   ·rintro D i x d σ' H2 H2' hD hDo hs2 hi hdi ⟨rfl, hy⟩ ⟨e, e', rfl⟩ R kR
    obtain ⟨od, hDo⟩ := hDo
    have hx := hy _ (.inl (.inl (hs2 _ _ h11)))
    obtain ⟨r, q, l, hr1, rfl, hq, hl⟩ := eO_ r1 hx
    have s12 := S1.trans hs2
    have hd : d = dRw r := by
     rw [List.getElem?_map, hr1] at hdi
     exact (Option.some.inj hdi).symm
    walk_at "rd"
    refine ⟨_, SqT.of (s12 _ _ hq), rfl, _, _, rfl, _, _, rfl, rfl, l, rfl, _, .inl (s12 _ _ hl), fun c1 n1 => ⟨by decide, fun c2 n2 => ?_⟩⟩
    have c1D : c1 ≠ D := (ag_ hDo n1).symm
    have c2D : c2 ≠ D := (ag_ ((Same.new n1 (o := HO.lst (r.2.map V.str))) _ _ hDo) n2).symm
    refine kR _ _ _ ⟨_, _, rfl⟩ ((Same.new n1).trans (Same.new n2)) ?_
    rw [hd]
    exact ⟨c2, _, rfl, by rw [bw_ c2D rfl]; exact ac_, _, _, rfl, rfl, _, _, rfl, ⟨c1, _, rfl, by rw [bw_ c1D rfl]; exact (Same.new n2) _ _ ac_, cf_ _⟩, rfl⟩
   ·intro D H2 hD s2 rep2
    have s02 := S1.trans s2
    refine ⟨_, s02 _ _ hn, _, atI_2, p2, rfl, _, .inl (s02 _ _ h2), fun c2 n2 => ⟨by decide, fun pe ne => ?_⟩⟩
    have S3 := Same.new n2 (o := HO.lst ws)
    have S4 := Same.new ne (o := HO.tup [V.ref c0, V.ref D, V.ref c2])
    refine k _ _ (s02.trans (S3.trans S4)) ⟨pe, _, rfl, ac_, _, _, rfl, ⟨c0, _, rfl, (s2.trans (S3.trans S4)) _ _ hc0, cf_ _⟩, _, _, rfl, Rep.mono (bb_.trans (S3.trans S4)) _ rep2, _, _, rfl, ⟨c2, ws, rfl, S4 _ _ ac_, Reps.mono (s02.trans (S3.trans S4)) _ r2⟩, rfl⟩
variable {P : Program} {w : World} {K : PySem.W.Frag} {mg : Str → Option Value} {base : Heap} {CN CR CA CO CW : Addr}
theorem mS_ {α : Type} {l : List α} {f : α → α → Int × Int} {a b : Nat} {x y : α} (h1 : l[a]? = some x) (h2 : l[b]? = some y) : ge (l.map fun i => l.map fun j => f i j) a b = f x y := by
 unfold ge
 rw [List.getD_eq_getElem?_getD, List.getD_eq_getElem?_getD, List.getElem?_map, h1]
 show ((l.map fun j => f x j)[b]?).getD (0, 1) = f x y
 rw [List.getElem?_map, h2]
 rfl
theorem lP_ {g : List (List (Int × Int))} {n k i j : Nat} (hg : Gd n g) (hk : k < n) (h0 : ge g k k ≠ (0, 1)) (hi : i < n) (hj : j < n) : Low (fmin (ge g i j) (fmul (fovr (ge g i k) (ge g k k)) (ge g k j))) ∧ Builtin.Int.intBits (fmin (ge g i j) (fmul (fovr (ge g i k) (ge g k k)) (ge g k j))).1 ≤ 801 ∧ Builtin.Int.intBits (fmin (ge g i j) (fmul (fovr (ge g i k) (ge g k k)) (ge g k j))).2 ≤ 801 := by
 have eij := hg.ent i j hi hj
 have eik := hg.ent i k hi hk
 have ekk := hg.ent k k hk hk
 have ekj := hg.ent k j hk hj
 have k1 := lI_ ekk.1 h0
 have lsh := j4_ eik.1 ekk.1 k1
 have bsh := iX_ eik.1 k1 eik.2.1 eik.2.2 ekk.2.1 ekk.2.2
 have lm := j3_ lsh ekj.1
 have bm := iY_ lsh ekj.1 bsh.1 bsh.2 ekj.2.1 ekj.2.2
 exact ⟨j2_ eij.1 lm, iZ_ eij.1 lm eij.2.1 eij.2.2 bm.1 bm.2⟩
abbrev s_Lright : Stmt := stN 51
theorem cn_ : FnScope ["_law_found", "_law_grid", "_law_k", "_law_left", "_law_a", "_law_b", "_law_i", "_law_j", "_law_part"] ["_law_found", "_law_grid", "_law_k"] (defScope s_Lright) := ⟨rfl, rfl, rfl, by decide +kernel, rfl, by decide +kernel, by decide +kernel⟩
theorem gN_ : LK s_Lright "_law_found" .local := by decide +kernel
theorem co_ : LK s_Lright "_law_grid" .local := by decide +kernel
theorem dn_ : LK s_Lright "_law_k" .cell := by decide +kernel
theorem bs_ : LK s_Lright "_law_left" .local := by decide +kernel
theorem eq_ : LK s_Lright "_law_a" .local := by decide +kernel
theorem er_ : LK s_Lright "_law_b" .local := by decide +kernel
theorem es_ : LK s_Lright "_law_i" .local := by decide +kernel
theorem et_ : LK s_Lright "_law_j" .local := by decide +kernel
theorem gO_ : LK s_Lright "_law_part" .local := by decide +kernel
theorem e0_ : LK s_Lright "_law_is_grid" .globalImplicit := by decide +kernel
theorem gP_ : LK s_Lright "_law_less" .globalImplicit := by decide +kernel
theorem d8_ : LK s_Lright "_law_mul" .globalImplicit := by decide +kernel
theorem bB_ : LK s_Lright "len" .globalImplicit := by decide +kernel
theorem cp_ : LK s_Lright "range" .globalImplicit := by decide +kernel
def sp_right : Sp := fun vs H Q _ => ∃ (v u : V) (g : List (List (Int × Int))) (n k : Nat), vs = [v, u, .int k] ∧ Rep H v (dG (tkn g k)) ∧ Rep H u (dG g) ∧ Gd n g ∧ k < n ∧ ge g k k ≠ (0, 1) ∧ ∀ H', Same H H' → Q (.bl true) H'
theorem lQ_ (T : Txt K mg) (F : Fn0 K mg "_law_right" s_Lright) (C_Lis_grid : Cal P w K mg base "_law_is_grid" ["_law_found", "_law_rows", "_law_columns"] 3 (sp_isg K)) (C_Lless : Cal P w K mg base "_law_less" ["_law_one", "_law_other"] 2 (sp_lw (fun p q => p.1 * q.2 - q.1 * p.2))) (C_Lmul : Cal P w K mg base "_law_mul" ["_law_one", "_law_other"] 2 (sp_lw (fun p q => p.1 * q.1))) : Cal P w K mg base "_law_right" ["_law_found", "_law_grid", "_law_k"] 4 sp_right := by
 refine aJ_ F cn_ (fun _ _ _ _ _ _ us hl => match us, hl with | [_, _, _], _ => rfl) ?len ?body
 case len => rintro vs H Q E ⟨a, b, c, d, e, rfl, _⟩; rfl
 case body =>
  intro f cdv A outer s H vs Q E hr h
  obtain ⟨v, u, g, n, kk, rfl, hv, hu, hg, hk, hne, k⟩ := h
  have gl := hg.len
  have n16 := hg.n16
  obtain ⟨p, xs, rfl, hp, xl, hat⟩ := hP_ (K := K) VG.refl hu hg
  have ol := kd_ n kk
  refine' ⟨_, ?D, ?R⟩
  case D =>
   refine' an_ ?g1 ?g2
   case' g1 => refine' f5_ (i := 3) (N' := ["_law_i", "_law_k"]) (ix := [none, some 2]) rfl rfl cn_.nd rfl bs_ rfl (bR_ ?g3) ?g4 (fun _ _ _ => ?g5) (fun _ _ _ => ?g6) (fun _ _ _ => (pv1 0 rfl rfl))
   case g3 => exact (by show scpB (defScope s_Lright) ["_law_found", "_law_grid", "_law_k", "_law_left", "_law_a", "_law_b", "_law_i", "_law_j", "_law_part"] _ _ _ = true; decide +kernel)
   case' g4 => refine' aS_ cp_ T.n_range ?g8
   case' g8 => refine' pa_c ?g9 aa_
   case' g9 => refine' al_ am_ bB_ T.n_len aQ_ ?g11
   case' g11 => refine' pa_c (pv1 1 rfl co_) aa_
   case g5 => exact ak_ (i := 0) (by show List.Nodup (["_law_i", "_law_k"] : List Str); decide +kernel) rfl rfl
   case' g6 => refine' k6_ ?g14
   case' g14 => refine' az_ op_ne (pv1 0 rfl rfl) (pvc 1 rfl rfl) (nomark _)
   case' g2 => refine' an_ ?g17 ?g18
   case' g17 => refine' ps_if ?g19 ?g20 aL_
   case' g19 => refine' d5_ ?g22
   case' g22 => refine' d4_ ?g23
   case' g23 => refine' aj_ C_Lis_grid (hr.mono (by decide)) e0_ ?g24
   case' g24 => refine' pa_c (pv1 0 rfl gN_) ?g26
   case' g26 => refine' pa_c ?g27 ?g28
   case' g27 => refine' al_ am_ bB_ T.n_len aQ_ ?g29
   case' g29 => refine' pa_c (pv1 3 rfl bs_) aa_
   case' g28 => refine' pa_c ?g32 aa_
   case' g32 => refine' al_ am_ bB_ T.n_len aQ_ ?g34
   case' g34 => refine' pa_c (pv1 3 rfl bs_) aa_
   case' g20 => refine' ae_ ?g37
   case' g37 => refine' aq_ pe_bl
   case' g18 => refine' ad_ ?g39 ?g40
   case' g39 => refine' bg_ PassesOwn.never rfl ?g41 ?g42 ?g43
   case' g41 => refine' aS_ cp_ T.n_range ?g44
   case' g44 => refine' pa_c ?g45 aa_
   case' g45 => refine' al_ am_ bB_ T.n_len aQ_ ?g47
   case' g47 => refine' pa_c (pv1 3 rfl bs_) aa_
   case g42 => exact ak_ (i := 4) cn_.nd rfl eq_
   case' g43 => refine' ae_ ?g50
   case' g50 => refine' bg_ PassesOwn.never rfl ?g51 ?g52 ?g53
   case' g51 => refine' aS_ cp_ T.n_range ?g54
   case' g54 => refine' pa_c ?g55 aa_
   case' g55 => refine' al_ am_ bB_ T.n_len aQ_ ?g57
   case' g57 => refine' pa_c (pv1 3 rfl bs_) aa_
   case g52 => exact ak_ (i := 5) cn_.nd rfl er_
   case' g53 => refine' an_ ?g60 ?g61
   case' g60 => refine' ai_ (i := 6) cn_.nd rfl es_ ?g62
   case' g62 => refine' pe_ix ah_ (pv1 3 rfl bs_) (pv1 4 rfl eq_) (fun _ _ => rfl)
   case' g61 => refine' an_ ?g65 ?g66
   case' g65 => refine' ai_ (i := 7) cn_.nd rfl et_ ?g67
   case' g67 => refine' pe_ix ah_ (pv1 3 rfl bs_) (pv1 5 rfl er_) (fun _ _ => rfl)
   case' g66 => refine' an_ ?g70 ?g71
   case' g70 => refine' ai_ (i := 8) cn_.nd rfl gO_ ?g72
   case' g72 => refine' aj_ C_Lmul (hr.mono (by decide)) d8_ ?g73
   case' g73 => refine' pa_c ?g74 ?g75
   case' g74 => refine' pe_ix ah_ ?g76 (pvc 2 rfl dn_) (fun _ _ => rfl)
   case' g76 => refine' pe_ix ah_ (pv1 1 rfl co_) (pv1 6 rfl es_) (fun _ _ => rfl)
   case' g75 => refine' pa_c ?g80 aa_
   case' g80 => refine' pe_ix ah_ ?g82 (pv1 7 rfl et_) (fun _ _ => rfl)
   case' g82 => refine' pe_ix ah_ (pv1 1 rfl co_) (pvc 2 rfl dn_) (fun _ _ => rfl)
   case' g71 => refine' ae_ ?g86
   case' g86 => refine' ps_if ?g87 ?g88 aL_
   case' g87 => refine' az_ (ih_ (hr.units)) ?g90 (pv1 8 rfl gO_) (nomark _)
   case' g90 => refine' aj_ C_Lmul (hr.mono (by decide)) d8_ ?g92
   case' g92 => refine' pa_c ?g93 ?g94
   case' g93 => refine' aj_ C_Lless (hr.mono (by decide)) gP_ ?g95
   case' g95 => refine' pa_c ?g96 ?g97
   case' g96 => refine' pe_ix ah_ ?g98 (pv1 7 rfl et_) (fun _ _ => rfl)
   case' g98 => refine' pe_ix ah_ (pv1 1 rfl co_) (pv1 6 rfl es_) (fun _ _ => rfl)
   case' g97 => refine' pa_c ?g102 aa_
   case' g102 => refine' pe_ix ah_ ?g104 (pv1 5 rfl er_) (fun _ _ => rfl)
   case' g104 => refine' pe_ix ah_ (pv1 0 rfl gN_) (pv1 4 rfl eq_) (fun _ _ => rfl)
   case' g94 => refine' pa_c ?g108 aa_
   case' g108 => refine' pe_ix ah_ ?g110 (pvc 2 rfl dn_) (fun _ _ => rfl)
   case' g110 => refine' pe_ix ah_ (pv1 1 rfl co_) (pvc 2 rfl dn_) (fun _ _ => rfl)
   case' g88 => refine' ae_ ?g114
   case' g114 => refine' aq_ pe_bl
   case' g40 => refine' ae_ ?g116
   case' g116 => refine' aq_ pe_bl
  case R =>
   walk_at "rd"
   refine ⟨xs, .inl hp, by omega, by omega, ?_⟩
   rw [xl, Int.toNat_natCast]
   refine jP_ (n := n) (Pσ := fun σ => ∃ e, σ = [e, some (V.int kk)]) (bs := fun i => decide (i ≠ kk)) (val := fun i => V.int i) ⟨_, rfl⟩ (by omega) (fun i H' hi s' => hi) (fun H' s' => Nat.le_refl _) ?_ ?_
   ·rintro D i x σ' H1 H1' hD hDo s1 hi ⟨rfl, rfl⟩ ⟨e, rfl⟩ Y R kY kR
    walk_at "rd"
    rw [Int.zero_add]
    exact ite2 (fun h => kY (decide_eq_true (show i ≠ kk by omega)) _ _ ⟨_, rfl⟩ (Same.refl _)) fun h => kR (decide_eq_false (by omega)) _ _ ⟨_, rfl⟩ (Same.refl _)
   ·intro D0 H1 hD0 s1 hD1
    have hD1' : H1 D0 = some (.lst ((othrs n kk).map fun i : Nat => V.int i)) := hD1
    clear hD1
    walk_at "rd"
    have tl : (tkn g kk).length = (othrs n kk).length := by unfold tkn; rw [List.length_map, gl]
    have tr : ∀ r ∈ tkn g kk, r.length = (othrs n kk).length := fun r hr => by
     obtain ⟨i, _, rfl⟩ := List.mem_map.mp hr
     rw [List.length_map, gl]
    have te : ∀ r ∈ tkn g kk, ∀ p ∈ r, Low p ∧ Builtin.Int.intBits p.2 ≤ 8000 := fun r hr p hp => by
     obtain ⟨i, hi, rfl⟩ := List.mem_map.mp hr
     obtain ⟨j, hj, rfl⟩ := List.mem_map.mp hp
     rw [gl] at hi hj
     have z := lP_ hg hk hne (cU_.mp hi).1 (cU_.mp hj).1
     exact ⟨z.1, by omega⟩
    refine ⟨_, .inl hD1', _, .inl hD1', H1, v, tkn g kk, (othrs n kk).length, (othrs n kk).length, VG.refl, by rw [List.length_map], Rep.mono s1 _ hv, tl, fun r hr => ⟨tr r hr, te r hr⟩, fun H2 s2 => ⟨_, rfl, ?_⟩⟩
    rw [if_neg (by decide)]
    have s02 := s1.trans s2
    obtain ⟨fp, fxs, rfl, hfp, fxl, fat⟩ := kc_ (K := K) VG.refl hv tl tr
    have hD2 := s2 _ _ hD1'
    walk_at "rd"
    refine ⟨_, .inl hD2, by omega, by rw [List.length_map]; omega, ?_⟩
    rw [List.length_map, Int.toNat_natCast]
    refine iw_ (fun a σ Hx => ∃ (e4 e5 e6 e7 e8 : Option V), σ = [some (.ref fp), some (.ref p), some (.int kk), some (.ref D0), e4, e5, e6, e7, e8] ∧ Same H2 Hx) ⟨_, _, _, _, _, rfl, Same.refl _⟩ ?_ ?_
    ·rintro a σ Hx ha kk1 kb1 hk1 hb1 G1 hG1 ⟨e4, e5, e6, e7, e8, rfl, sx⟩
     rw [Int.zero_add] at hG1
     walk_at "rd"
     refine ⟨_, .inl (sx _ _ hD2), by omega, by rw [List.length_map]; omega, ?_⟩
     rw [List.length_map, Int.toNat_natCast]
     refine iw_ (fun b σ Hx => ∃ (e5 e6 e7 e8 : Option V), σ = [some (.ref fp), some (.ref p), some (.int kk), some (.ref D0), some (.int a), e5, e6, e7, e8] ∧ Same H2 Hx) ⟨_, _, _, _, rfl, sx⟩ ?_ ?_
     ·rintro b σ Hy hb kk2 kb2 hk2 hb2 G2 hG2 ⟨e5, e6, e7, e8, rfl, sy⟩
      rw [Int.zero_add] at hG2
      walk_at "rd"
      have ea := List.getElem?_eq_getElem (l := othrs n kk) ha
      have eb := List.getElem?_eq_getElem (l := othrs n kk) hb
      have ia := (cU_.mp (List.getElem_mem ha)).1
      have jb := (cU_.mp (List.getElem_mem hb)).1
      generalize (othrs n kk)[a] = i at *
      generalize (othrs n kk)[b] = j at *
      have sH : Same H Hy := s02.trans sy
      obtain ⟨qi, yi, a1, hqi, hri⟩ := hat i ia
      obtain ⟨qk, yk, a2, hqk, hrk⟩ := hat kk hk
      obtain ⟨qf, yf, a3, hqf, hrf⟩ := fat a ha
      obtain ⟨uik, c1, _, rik⟩ := hri kk hk
      obtain ⟨uij, c2, _, rij⟩ := hri j jb
      obtain ⟨ukj, c3, _, rkj⟩ := hrk j jb
      obtain ⟨ukk, c4, _, rkk⟩ := hrk kk hk
      obtain ⟨uf, c5, _, rf⟩ := hrf b hb
      have efab : ge (tkn g kk) a b = fmin (ge g i j) (fmul (fovr (ge g i kk) (ge g kk kk)) (ge g kk j)) := by
       unfold tkn
       rw [gl]
       exact mS_ ea eb
      rw [efab] at rf
      have eik := hg.ent i kk ia hk
      have eij := hg.ent i j ia jb
      have ekj := hg.ent kk j hk jb
      have ekk := hg.ent kk kk hk hk
      have eff := lP_ hg hk hne ia jb
      have chk := mf_ eij.1 eik.1 ekj.1 ekk.1 (lI_ ekk.1 hne)
      generalize fmin (ge g i j) (fmul (fovr (ge g i kk) (ge g kk kk)) (ge g kk j)) = ff at *
      refine ⟨_, sy _ _ hD2, .int i, b8_ (by omega) (by rw [Int.toNat_natCast, List.getElem?_map, ea]; rfl), ?_⟩
      walk_at "rd"
      refine ⟨_, sy _ _ hD2, .int j, b8_ (by omega) (by rw [Int.toNat_natCast, List.getElem?_map, eb]; rfl), ?_⟩
      walk_at "rd"
      refine ⟨_, sH _ _ hp, _, a1, qi, rfl, _, sH _ _ hqi, _, c1, _, sH _ _ hp, _, a2, qk, rfl, _, sH _ _ hqk, _, c3, _, _, ge g i kk, ge g kk j, rfl, Rep.mono sH _ rik, Rep.mono sH _ rkj, eik.1.pos, ekj.1.pos, by omega, by omega, by omega, by omega, fun z1 H4 s4 rz1 => ?_⟩
      have s04 := sH.trans s4
      walk_at "rd"
      refine ⟨_, s04 _ _ hp, _, a1, qi, rfl, _, s04 _ _ hqi, _, c2, _, s04 _ _ hfp, _, a3, qf, rfl, _, s04 _ _ hqf, _, c5, _, _, ge g i j, ff, rfl, Rep.mono s04 _ rij, Rep.mono s04 _ rf, eij.1.pos, eff.1.pos, by omega, by omega, by omega, by omega, fun z2 H5 s5 rz2 => ?_⟩
      have s05 := s04.trans s5
      have lm := j2_ eij.1 eff.1
      have bm := iZ_ eij.1 eff.1 eij.2.1 eij.2.2 eff.2.1 eff.2.2
      try walk_at "rd"
      refine ⟨_, s05 _ _ hp, _, a2, qk, rfl, _, s05 _ _ hqk, _, c4, _, _, fmin (ge g i j) ff, ge g kk kk, rfl, Rep.mono bb_ _ rz2, Rep.mono s05 _ rkk, lm.pos, ekk.1.pos, by omega, by omega, by omega, by omega, fun z3 H6 s6 rz3 => ?_⟩
      have rz3' : Rep H6 (.ref z3) (dF (fmul (fmin (ge g i j) ff) (ge g kk kk))) := Rep.mono bb_ _ rz3
      rw [chk] at rz3'
      refine ⟨z3, rfl, _, rz3', dF (fmul (ge g i kk) (ge g kk j)), Rep.mono (bb_.trans (s5.trans s6)) _ rz1, true, by rw [ke_]; simp, by simp [dep, deps, dF], ?_⟩
      rw [if_neg (by decide)]
      exact hk2 _ _ ⟨_, _, _, _, rfl, sy.trans (s4.trans (s5.trans s6))⟩
     ·rintro σ Hy ⟨e5, e6, e7, e8, rfl, sy⟩
      exact hk1 _ _ ⟨_, _, _, _, _, rfl, sy⟩
    ·rintro σ Hx ⟨e4, e5, e6, e7, e8, rfl, sx⟩
     walk_at "rd"
     exact k _ (s02.trans sx)
theorem nJ_ (r : List (Int × Int)) : dep (dRow r) ≤ 2 := Nat.succ_le_succ (ep_ (f := dF) (n := 1) (fun p => by simp [dF, dep, deps]) _)
theorem lR_ (g : List (List (Int × Int))) : dep (dG g) ≤ 60 := Nat.le_trans (Nat.succ_le_succ (ep_ (f := dRow) nJ_ g)) (by decide)
theorem ol_ {N : Net Str} (ok : NetOk N) (wo : WOk N) : Gd N.rows.length (tbl N) := by
 obtain ⟨bp, ble⟩ := hd_ ok wo
 have l15 := lH_ ok wo
 have nl : (N.rows.map (·.1)).length = N.rows.length := List.length_map _
 refine ⟨by unfold tbl; rw [List.length_map, nl], ok.few, fun r hr => ?_, fun i j hi hj => ?_⟩
 ·obtain ⟨x, _, rfl⟩ := List.mem_map.mp hr
  rw [List.length_map, nl]
 ·have e : ge (tbl N) i j = nf (sm (ties N) ((N.rows.map (·.1))[i]'(by omega)) ((N.rows.map (·.1))[j]'(by omega))) (bN N) := mS_ (List.getElem?_eq_getElem _) (List.getElem?_eq_getElem _)
  rw [e]
  refine sm_of bp ble (show 4 * (ties N).length ≤ 62 by unfold ties; rw [List.length_map]; omega) (sm_le (ties N) (fun e he => ?_) _ _)
  obtain ⟨kv, hkv, rfl⟩ := List.mem_map.mp he
  exact (wN_ok ok wo (gG_.mp (List.mem_map.mpr ⟨kv, hkv, rfl⟩))).2.2
abbrev s_law : Stmt := stN 52
theorem e1_ : FnScope ["_law_script", "_law_net", "_law_handed", "_law_grid", "_law_due", "_law_k", "_law_found", "_law_own", "_law_row"] ["_law_script"] (defScope s_law) := ⟨rfl, rfl, rfl, by decide +kernel, rfl, by decide +kernel, by decide +kernel⟩
theorem kh_ : LK s_law "_law_script" .local := by decide +kernel
theorem dX_ : LK s_law "_law_net" .local := by decide +kernel
theorem fV_ : LK s_law "_law_handed" .local := by decide +kernel
theorem dY_ : LK s_law "_law_grid" .local := by decide +kernel
theorem do_ : LK s_law "_law_due" .local := by decide +kernel
theorem e2_ : LK s_law "_law_k" .local := by decide +kernel
theorem fW_ : LK s_law "_law_found" .local := by decide +kernel
theorem ki_ : LK s_law "_law_own" .local := by decide +kernel
theorem kj_ : LK s_law "_law_row" .local := by decide +kernel
theorem jF_ : LK s_law "_law_big" .globalImplicit := by decide +kernel
theorem i3_ : LK s_law "_law_copy" .globalImplicit := by decide +kernel
theorem gQ_ : LK s_law "_law_is_grid" .globalImplicit := by decide +kernel
theorem gY_ : LK s_law "_law_net_by" .globalImplicit := by decide +kernel
theorem hV_ : LK s_law "_law_right" .globalImplicit := by decide +kernel
theorem hW_ : LK s_law "_law_small" .globalImplicit := by decide +kernel
theorem hX_ : LK s_law "_law_taken" .globalImplicit := by decide +kernel
theorem e3_ : LK s_law "_law_whole_grid" .globalImplicit := by decide +kernel
theorem fs_ : LK s_law "len" .globalImplicit := by decide +kernel
theorem cA_ : LK s_law "whole_table" .globalImplicit := by decide +kernel
def sp_law (K : PySem.W.Frag) : Sp := fun vs H Q _ => ∃ (a : Addr) (ns : List Int), vs = [.ref a] ∧ SqL K H a (ns.map V.int) ∧ ∀ H', Q (.bl true) H'
theorem om_ {f : Addr} {fd : FuncData} (T : Txt K mg) (hN : Nt K mg CN) (F : Fun K "law" "law" s_law f fd) (C_Lnet_by : Cal P w K mg base "_law_net_by" ["_law_script", "_law_at", "_law_most"] 4 (sp_net K)) (C_Lsmall : Cal P w K mg base "_law_small" ["_law_net"] 2 sp_small) (C_Lcopy : Cal P w K mg base "_law_copy" ["_law_net"] 1 sp_copy) (C_whole_table : Cal P w K mg base "whole_table" ["net"] 5 (sp_wt K CN)) (C_Lwhole_grid : Cal P w K mg base "_law_whole_grid" ["_law_net"] 3 sp_wg) (C_Lis_grid : Cal P w K mg base "_law_is_grid" ["_law_found", "_law_rows", "_law_columns"] 3 (sp_isg K)) (C_Lbig : Cal P w K mg base "_law_big" ["_law_script", "_law_at"] 2 (sp_big K)) (C_Ltaken : Cal P w K mg base "_law_taken" ["_law_grid", "_law_k"] 5 (sp_tk K CN)) (C_Lright : Cal P w K mg base "_law_right" ["_law_found", "_law_grid", "_law_k"] 4 sp_right) : FnOk P w K mg base CX0 6 f fd ["_law_script"] (sp_law K) := by
 refine F.ok e1_ (fun vs H Q E h => by obtain ⟨a, ns, rfl, _⟩ := h; rfl) ?_
 intro cdv A outer s H vs Q E hr h
 obtain ⟨a, ns, rfl, hS, k⟩ := h
 obtain ⟨oN, lkN⟩ := hN.lk
 refine' ⟨_, ?D, ?R⟩
 case D =>
  refine' an_ ?g1 ?g2
  case' g1 => refine' ai_ (i := 1) e1_.nd rfl dX_ ?g3
  case' g3 => refine' aj_ C_Lsmall (hr.mono (by decide)) hW_ ?g4
  case' g4 => refine' pa_c ?g5 aa_
  case' g5 => refine' aj_ C_Lnet_by (hr.mono (by decide)) gY_ ?g7
  case' g7 => refine' pa_c (pv1 0 rfl kh_) ?g9
  case' g9 => refine' pa_c ab_ ?g11
  case' g11 => refine' pa_c ab_ aa_
  case' g2 => refine' an_ ?g14 ?g15
  case' g14 => refine' ai_ (i := 2) e1_.nd rfl fV_ ?g16
  case' g16 => refine' aj_ C_Lcopy (hr.mono (by decide)) i3_ ?g17
  case' g17 => refine' pa_c (pv1 1 rfl dX_) aa_
  case' g15 => refine' an_ ?g20 ?g21
  case' g20 => refine' ai_ (i := 3) e1_.nd rfl dY_ ?g22
  case' g22 => refine' aj_ C_whole_table (hr.mono (by decide)) cA_ ?g23
  case' g23 => refine' pa_c (pv1 2 rfl fV_) aa_
  case' g21 => refine' an_ ?g26 ?g27
  case' g26 => refine' ai_ (i := 4) e1_.nd rfl do_ ?g28
  case' g28 => refine' aj_ C_Lwhole_grid (hr.mono (by decide)) e3_ ?g29
  case' g29 => refine' pa_c (pv1 1 rfl dX_) aa_
  case' g27 => refine' an_ ?g32 ?g33
  case' g32 => refine' ps_if ?g34 ?g35 aL_
  case' g34 => refine' PW.pt ?g37
  case' g37 => refine' pw_or ?g38 ?g39
  case' g38 => refine' d5_ ?g40
  case' g40 => refine' d4_ ?g41
  case' g41 => refine' aj_ C_Lis_grid (hr.mono (by decide)) gQ_ ?g42
  case' g42 => refine' pa_c (pv1 3 rfl dY_) ?g44
  case' g44 => refine' pa_c ?g45 ?g46
  case' g45 => refine' al_ am_ fs_ T.n_len aQ_ ?g47
  case' g47 => refine' pa_c ?g48 aa_
  case' g48 => refine' pe_ix ao_ (pv1 1 rfl dX_) ab_ (fun _ _ => rfl)
  case' g46 => refine' pa_c ?g52 aa_
  case' g52 => refine' al_ am_ fs_ T.n_len aQ_ ?g54
  case' g54 => refine' pa_c ?g55 aa_
  case' g55 => refine' pe_ix ao_ (pv1 1 rfl dX_) ab_ (fun _ _ => rfl)
  case' g39 => refine' pw_or ?g59 ?g60
  case' g59 => refine' az_ (k8_ rfl (hr.units)) (pv1 3 rfl dY_) ?g62 (nomark _)
  case' g62 => refine' c2_ (K := K) rfl (pv1 4 rfl do_)
  case' g60 => refine' hZ_ ?g64
  case' g64 => refine' az_ (ih_ (hr.units)) (pv1 2 rfl fV_) (pv1 1 rfl dX_) (nomark _)
  case' g35 => refine' ae_ ?g67
  case' g67 => refine' aq_ pe_bl
  case' g33 => refine' an_ ?g69 ?g70
  case' g69 => refine' ai_ (i := 5) e1_.nd rfl e2_ ?g71
  case' g71 => refine' pe_op aG_ ?g72 ?g73
  case' g72 => refine' aj_ C_Lbig (hr.mono (by decide)) jF_ ?g74
  case' g74 => refine' pa_c (pv1 0 rfl kh_) ?g76
  case' g76 => refine' pa_c ab_ aa_
  case' g73 => refine' al_ am_ fs_ T.n_len aQ_ ?g79
  case' g79 => refine' pa_c ?g80 aa_
  case' g80 => refine' c2_ (K := K) rfl (pv1 4 rfl do_)
  case' g70 => refine' an_ ?g83 ?g84
  case' g83 => refine' dw_ ?g85 ?g86
  case' g85 => refine' aj_ C_Ltaken (hr.mono (by decide)) hX_ ?g87
  case' g87 => refine' pa_c (pv1 3 rfl dY_) ?g89
  case' g89 => refine' pa_c (pv1 5 rfl e2_) aa_
  case' g86 => refine' bc_ (K := K) (n := 2) rfl rfl ?g92
  case' g92 => refine' ap_ ?g93 ?g94
  case g93 => exact ak_ (i := 6) e1_.nd rfl fW_
  case' g94 => refine' ap_ ?g95 ba_
  case g95 => exact ak_ (i := 7) e1_.nd rfl ki_
  case' g84 => refine' an_ ?g97 ?g98
  case' g97 => refine' ps_if ?g99 ?g100 aL_
  case' g99 => refine' PW.pt ?g102
  case' g102 => refine' pw_or ?g103 ?g104
  case' g103 => refine' d5_ ?g105
  case' g105 => refine' d4_ (pv1 7 rfl ki_)
  case' g104 => refine' pw_or ?g107 ?g108
  case' g107 => refine' az_ (k8_ rfl (hr.units)) (pv1 3 rfl dY_) ?g110 (nomark _)
  case' g110 => refine' c2_ (K := K) rfl (pv1 4 rfl do_)
  case' g108 => refine' hZ_ ?g112
  case' g112 => refine' az_ op_ne ?g113 ?g114 (nomark _)
  case' g113 => refine' nQ_ (nP_ (pv1 6 rfl fW_))
  case' g114 => refine' e4_ (n3_ (hr.units)) ?g116 ?g117 (nomark _)
  case' g116 => refine' pe_ix ah_ ?g118 (pv1 5 rfl e2_) (fun _ _ => rfl)
  case' g118 => refine' pe_ix ah_ ?g120 (pv1 5 rfl e2_) (fun _ _ => rfl)
  case' g120 => refine' c2_ (K := K) rfl (pv1 4 rfl do_)
  case' g117 => refine' aH_ ?g123
  case' g123 => refine' pa_c ab_ ?g125
  case' g125 => refine' pa_c ab_ aa_
  case' g100 => refine' ae_ ?g128
  case' g128 => refine' aq_ pe_bl
  case' g98 => refine' an_ ?g130 ?g131
  case' g130 => refine' g0_ ?g132
  case' g132 => refine' ps_if ?g133 ?g134 aL_
  case' g133 => refine' PW.pt ?g136
  case' g136 => refine' mv_ ?g137 ?g138
  case' g137 => refine' mu_ (mW_ (pv1 6 rfl fW_))
  case' g138 => refine' kL_ ?g140
  case' g140 => refine' d5_ ?g141
  case' g141 => refine' d4_ ?g142
  case' g142 => refine' aj_ C_Lright (hr.mono (by decide)) hV_ ?g143
  case' g143 => refine' pa_c (pv1 6 rfl fW_) ?g145
  case' g145 => refine' pa_c ?g146 ?g147
  case' g146 => refine' c2_ (K := K) rfl (pv1 4 rfl do_)
  case' g147 => refine' pa_c (pv1 5 rfl e2_) aa_
  case' g134 => refine' ae_ ?g151
  case' g151 => refine' aq_ pe_bl
  case' g131 => refine' an_ ?g153 ?g154
  case' g153 => refine' bg_ PassesOwn.never rfl ?g155 ?g156 ?g157
  case' g155 => refine' aK_ (K := K) rfl (pv1 3 rfl dY_)
  case g156 => exact ak_ (i := 8) e1_.nd rfl kj_
  case' g157 => refine' ae_ ?g159
  case' g159 => refine' bv_ ?g160
  case' g160 => refine' pe_bm PySem.F.plainAttrs_list PySem.F.slot_list_append PySem.F.type_list_append bi_ (pv1 8 rfl kj_) ?g162
  case' g162 => refine' pa_c ?g163 aa_
  case' g163 => refine' aH_ ?g165
  case' g165 => refine' pa_c ab_ ?g167
  case' g167 => refine' pa_c ab_ aa_
  case' g154 => refine' ae_ ?g170
  case' g170 => refine' aq_ ?g171
  case' g171 => refine' e4_ (ig_ rfl (hr.units)) ?g172 ?g173 (nomark _)
  case' g172 => refine' aj_ C_whole_table (hr.mono (by decide)) cA_ ?g174
  case' g174 => refine' pa_c (pv1 2 rfl fV_) aa_
  case' g173 => refine' c2_ (K := K) rfl (pv1 4 rfl do_)
 case R =>
  walk_at "rd"
  refine ⟨a, ns, rfl, hS, fun v0 N0 H0 s0 rep0 ok0 po0 wo0 => ?_⟩
  refine ⟨v0, N0, rfl, rep0, ok0, wo0, fun v1 N H1 s1 rep1 ok wo er => ?_⟩
  walk_at "rd"
  refine ⟨v1, N, rfl, rep1, ok, fun v2 H2 s2 rep2 => ?_⟩
  walk_at "rd"
  refine ⟨v2, N, rfl, rep2, ok, wo, fun D H3 s3 nx3 rep3 => ?_⟩
  walk_at "rd"
  refine ⟨v1, N, rfl, Rep.mono (s2.trans s3) _ rep1, ok, wo, fun E4 H4 s4 rep4 => ?_⟩
  try walk_at "rd"
  have gd := ol_ ok wo
  have npos : 0 < N.rows.length := by
   rw [er]
   cases e : N0.posts with
   | nil => have := po0.p0; rw [e] at this; exact absurd this (by decide)
   | cons p l =>
    have := po0.pin p (by rw [e]; exact List.mem_cons_self)
    have := List.length_pos_of_mem this
    rwa [List.length_map] at this
  obtain ⟨pn, p0, p1, p2, rs, ws, rfl, hn, h0, h1, r1, h2, r2⟩ := dK_ rep1
  have rl : rs.length = N.rows.length := by rw [r1.length, List.length_map]
  have s14 := s2.trans (s3.trans s4)
  have repG : ∀ Hx, Same H3 Hx → Rep (wN0 CN Hx) (.ref D) (dG (tbl N)) := fun Hx s => Rep.mono (dW_ _ _ (bb_.trans s)) _ rep3
  have gent : ∀ r ∈ tbl N, r.length = N.rows.length ∧ ∀ p ∈ r, Low p ∧ Builtin.Int.intBits p.2 ≤ 8000 := fun r hr => by
   refine ⟨gd.row r hr, fun p hp => ?_⟩
   obtain ⟨i, hi, ei⟩ := List.mem_iff_getElem.mp hr
   obtain ⟨j, hj, ej⟩ := List.mem_iff_getElem.mp hp
   have e : ge (tbl N) i j = p := by
    unfold ge
    rw [List.getD_eq_getElem?_getD, List.getD_eq_getElem?_getD, List.getElem?_eq_getElem hi, ei]
    show (r[j]?).getD (0, 1) = p
    rw [List.getElem?_eq_getElem hj, ej]
    rfl
   have z := gd.ent i j (by rw [← gd.len]; exact hi) (by rw [← gd.row r hr]; exact hj)
   rw [e] at z
   exact ⟨z.1, by omega⟩
  refine ⟨pn, rfl, _, s14 _ _ hn, _, atI_1, p1, rfl, rs, .inl (s14 _ _ h1), pn, rfl, _, s14 _ _ hn, _, atI_1, p1, rfl, rs, .inl (s14 _ _ h1), wN0 CN H4, _, tbl N, N.rows.length, N.rows.length, iU_ hN, by rw [rl], repG _ s4, gd.len, gent, fun H5 s5 => ⟨_, rfl, ?_⟩⟩
  rw [if_neg (by decide)]
  intro nx5
  have s35 := s4.trans s5
  have repE : ∀ Hx, Same H4 Hx → Rep Hx (.ref E4) (dG (tbl N)) := fun Hx s => Rep.mono (bb_.trans s) _ rep4
  refine ⟨wN0 CN H5, (iU_ hN).vw, _, repG _ s35, _, Rep.mono (jB_ (nx5 _ _ lkN)) _ (repE _ s5), true, eY_ _, lR_ _, ?_⟩
  rw [if_neg (by decide)]
  try walk_at "rd"
  obtain ⟨hp2, e2v, hrep2⟩ : ∃ q, v2 = .ref q ∧ Rep H2 (.ref q) (dNet N) := by
   obtain ⟨q, _, e, _⟩ := id rep2
   exact ⟨q, e, e ▸ rep2⟩
  subst e2v
  have s25 := s3.trans s35
  refine ⟨hp2, rfl, _, Rep.mono s25 _ hrep2, _, Rep.mono (s14.trans s5) _ rep1, true, eY_ _, nI_ _, ?_⟩
  rw [if_neg (by decide)]
  walk_at "rd"
  refine ⟨a, ns, 13, rfl, by decide, (s0.trans (s1.trans (s2.trans s25))).seq hS, fun z H6 s6 nx6 => ?_⟩
  obtain ⟨pE, xs, eE, hE4, rxs⟩ := repE _ (Same.refl _)
  cases eE
  have xl : xs.length = N.rows.length := by rw [rxs.length, List.length_map, gd.len]
  have s46 := s5.trans s6
  refine ⟨xs, .inl (s46 _ _ hE4), z, rfl, by omega, ?_⟩
  have k0 := Int.emod_nonneg z (show (xs.length : Int) ≠ 0 by omega)
  have k1 := Int.emod_lt_of_pos z (show (0 : Int) < (xs.length : Int) by omega)
  obtain ⟨kk, hkk, klt⟩ : ∃ m : Nat, z % (xs.length : Int) = m ∧ m < N.rows.length := ⟨(z % (xs.length : Int)).toNat, by omega, by omega⟩
  rw [hkk]
  clear k0 k1 hkk
  have s36 := s35.trans s6
  walk_at "rd"
  refine ⟨wN0 CN H6, _, tbl N, N.rows.length, kk, rfl, iU_ hN, eT_, repG _ s36, gd, klt, fun tz fv H7 s7 ntz htz hcase => ?_⟩
  have s37 := s36.trans s7
  have s47 := s46.trans s7
  try walk_at "rd"
  refine ⟨_, SqT.of htz, rfl, _, _, rfl, _, _, rfl, rfl, ?_⟩
  walk_at "rd"
  intro nx7
  refine ⟨wN0 CN H7, (iU_ hN).vw, _, repG _ s37, _, Rep.mono (jB_ (nx7 _ _ lkN)) _ (repE _ s47), true, eY_ _, lR_ _, ?_⟩
  rw [if_neg (by decide)]
  intro _
  obtain ⟨_, xs', e7, hE7, xl', hat⟩ := hP_ (K := K) VG.refl (repE _ s47) gd
  cases e7
  obtain ⟨qk, yk, b1, hqk, hrk⟩ := hat kk klt
  obtain ⟨uk, b2, fk, ruk⟩ := hrk kk klt
  obtain ⟨ua, rfl, _⟩ := id fk
  refine ⟨_, hE7, _, b1, qk, rfl, _, hqk, _, b2, by decide, fun tp ntp => ?_⟩
  have S8 := Same.new ntp (o := HO.tup [V.int 0, V.int 1])
  have htp := ac_ (H := H7) (a := tp) (o := HO.tup [V.int 0, V.int 1])
  generalize upd H7 tp (HO.tup [V.int 0, V.int 1]) = H8 at *
  refine ⟨ua, rfl, _, Rep.mono S8 _ ruk, dF (0, 1), ⟨tp, _, rfl, htp, _, _, rfl, rfl, _, _, rfl, rfl, rfl⟩, _, ke_ _ _, by simp [dep, deps, dF], ?_⟩
  rw [if_neg (fun z => z (by
   rcases hcase with ⟨e1, e2⟩ | ⟨e1, D', e2, _⟩
   ·rw [e1, e2]; simp
   ·rw [e2, decide_eq_false e1]; simp))]
  have s38 := s37.trans S8
  have s48 := s47.trans S8
  walk_at "rd"
  refine ⟨fun σ Hx => σ = [some (V.ref a), some (V.ref pn), some (V.ref hp2), some (V.ref D), some (V.ref E4), some (V.int kk), some fv, some (V.bl true), none] ∧ Same H8 Hx, ?_, ?_⟩
  ·walk_at "rd"
   rcases hcase with ⟨e1, e2⟩ | ⟨e1, D', e2, rD⟩
   ·subst e1
    rw [if_neg (fun z => z rfl)]
    exact Same.refl _
   ·subst e2
    rw [if_pos (fun z => nomatch z)]
    intro _
    refine ⟨_, _, tbl N, N.rows.length, kk, rfl, Rep.mono (bb_.trans S8) _ rD, repE _ s48, gd, klt, e1, fun H9 s9 => ⟨_, rfl, ?_⟩⟩
    rw [if_neg (by decide)]
    exact s9
  ·rintro σ Hx ⟨rfl, s8x⟩
   walk_at "rd"
   have s3x := s38.trans s8x
   have s4x := s48.trans s8x
   have lst : ∀ q ys, wN0 CN (newH H2 H3) q = some (.lst ys) → H2 q = none ∧ H3 q = some (.lst ys) := fun q ys h => by
    by_cases e : q = CN
    ·rw [e, eT_] at h
     cases h
    ·rw [he_ e] at h
     exact aP_ h
   obtain ⟨_, gx, e9, hDw, rgx⟩ := rep3
   cases e9
   have hD := lst _ _ hDw
   have gxl : gx.length = N.rows.length := by rw [rgx.length, List.length_map, gd.len]
   have rows : ∀ (m : Nat) (q : Addr), gx[m]? = some (.ref q) → H2 q = none ∧ q ≠ D ∧ ∃ ys, H3 q = some (.lst ys) ∧ ys.length ≤ 16 := fun m q hm => by
    obtain ⟨_, ys, r, hr, e1, hq, rys⟩ := eR_ rgx hm
    cases e1
    have rl1 := gd.row r (List.mem_of_getElem? hr)
    have yl : ys.length = N.rows.length := by rw [rys.length, List.length_map, rl1]
    have n16 := ok.few
    refine ⟨(lst _ _ hq).1, fun c => ?_, ys, (lst _ _ hq).2, by omega⟩
    rw [c, hDw] at hq
    cases hq
    have y0 := List.getElem?_eq_getElem (l := gx) (i := 0) (by omega)
    obtain ⟨u, z, _, eu, hu⟩ := lB_ rys y0
    obtain ⟨q0, ys0, r0, _, e0, hq0, _⟩ := eR_ rgx y0
    rw [eu] at e0
    cases e0
    rw [hu] at hq0
    cases hq0
   have hDx := s3x _ _ hD.2
   refine ⟨⟨_, .inl (.inl hDx)⟩, dT_ (xs := gx) (fun i σ Hy => ∃ e8, σ = [some (V.ref a), some (V.ref pn), some (V.ref hp2), some (V.ref D), some (V.ref E4), some (V.int kk), some fv, some (V.bl true), e8] ∧ (∀ b o, Hx b = some o → (∀ m : Nat, gx[m]? ≠ some (V.ref b)) → Hy b = some o) ∧ ∀ (m : Nat) (q : Addr), gx[m]? = some (.ref q) → ∃ ys, Hy q = some (.lst ys) ∧ ys.length ≤ 16 + i) ⟨_, rfl, fun b o h _ => h, fun m q hm => let ⟨_, _, ys, h1, h2⟩ := rows m q hm; ⟨ys, s3x _ _ h1, h2⟩⟩ ?_ ?_ ?_⟩
   ·rintro i σ Hy hi ⟨e8, rfl, kp, rw'⟩
    exact .inl (.inl (kp _ _ hDx fun m hm => (rows m D hm).2.1 rfl))
   ·rintro i x σ Hy hx kk1 kb1 hk1 hb1 G1 hG1 ⟨e8, rfl, kp, rw'⟩
    obtain ⟨q, _, _, _, rfl, _, _⟩ := eR_ rgx hx
    obtain ⟨ys, hq, yl⟩ := rw' i q hx
    have il := (List.getElem?_eq_some_iff.mp hx).1
    have n16 := ok.few
    walk_at "rd"
    refine ⟨.inl ⟨_, .inl (.inl hq)⟩, by decide, fun t nt => ⟨ys, (Same.new nt) _ _ hq, small1000 (by omega), hk1 _ _ ⟨_, rfl, fun b o h hb => ?_, fun m q' hm => ?_⟩⟩⟩
    ·rw [af_ (fun c => hb i (by rw [c]; exact hx))]
     exact (Same.new nt) _ _ (kp b o h hb)
    ·by_cases c : q' = q
     ·rw [c]
      exact ⟨_, ac_, by rw [List.length_append]; simp; omega⟩
     ·obtain ⟨ys', h1, h2⟩ := rw' m q' hm
      exact ⟨ys', by rw [af_ c]; exact (Same.new nt) _ _ h1, by omega⟩
   ·rintro σ Hy ⟨e8, rfl, kp, rw'⟩
    have s2y : Same H2 Hy := fun b o h => kp b o (s3x _ _ (s3 _ _ h)) fun m hm => by
     rw [(rows m b hm).1] at h
     cases h
    have sdy : Same (newH H3 H4) Hy := fun b o h => by
     obtain ⟨h1, h2⟩ := aP_ h
     refine kp b o (s4x _ _ h2) fun m hm => ?_
     obtain ⟨_, _, ys, h3, _⟩ := rows m b hm
     rw [h1] at h3
     cases h3
    walk_at "rd"
    refine ⟨_, N, rfl, Rep.mono s2y _ hrep2, ok, wo, fun D2 H10 s10 nx10 rep10 nx11 => ?_⟩
    refine ⟨wN0 CN H10, (iU_ hN).vw, D2, rfl, _, Rep.mono (dW_ _ _ bb_) _ rep10, _, Rep.mono ((sdy.trans s10).trans (jB_ (nx11 _ _ lkN))) _ rep4, true, eY_ _, lR_ _, k _⟩
open PySem PySem.Spec PyProof.Rows L2
variable {CR CA CO CW CN : Addr}
theorem cl_of {K : PySem.W.Frag} {C : Addr} (h : PySem.W.hasDictIn K C = true) : (PySem.W.clsIn K C).isSome = true := by
 unfold PySem.W.hasDictIn at h
 cases e : PySem.W.clsIn K C with
 | none => rw [e] at h; cases h
 | some c => rfl
theorem nt_of {K : PySem.W.Frag} {mg : Str → Option Value} {h : Heap} (X : K.In h) (G : h.Ns mainGlobals mg) {C : Addr} {t u : Tok} {n : Nat} {od : Option Addr} {osl : Array (Option Value)}
  (a : PySem.W.nsIn K mainGlobals "NOUGHT" = some (some (.ref C))) (l : K.lookup C = some ⟨.type "tuple", od, .seq #[.int 0 t, .int 1 u] n, osl⟩) : Nt K mg C :=
 ⟨PySem.W.mg_of X G a, fun H => .inr ⟨_, _, _, l, rfl, rfl, Nat.le_of_lt (small1000 (by show 2 ≤ 1000; decide)), .cons ⟨_, rfl⟩ (.cons ⟨_, rfl⟩ .nil)⟩, _, l⟩
theorem on_ {l : PySem.W.OpenLaw} {w : World} {K : PySem.W.Frag} {mg : Str → Option Value} {fa : Addr} (hfa : mg "law" = some (.ref fa)) (T : Txt K mg) (EX : Exs K mg CR CA CO CW) (hN : Nt K mg CN) (F_greatest_divisor : Fn0 K mg "greatest_divisor" s_greatest_divisor) (F_fraction : Fn0 K mg "fraction" s_fraction) (F_plus : Fn0 K mg "plus" s_plus) (F_minus : Fn0 K mg "minus" s_minus) (F_times : Fn0 K mg "times" s_times) (F_over : Fn0 K mg "over" s_over) (F_ends_by_wire : Fn0 K mg "ends_by_wire" s_ends_by_wire) (F_pulls_of : Fn0 K mg "pulls_of" s_pulls_of) (F_points_of : Fn0 K mg "points_of" s_points_of) (F_pull_grid : Fn0 K mg "pull_grid" s_pull_grid) (F_whole_table : Fn0 K mg "whole_table" s_whole_table) (F_taken_out : Fn0 K mg "taken_out" s_taken_out) (F_Lcell_at : Fn0 K mg "_law_cell_at" s_Lcell_at) (F_Lbig : Fn0 K mg "_law_big" s_Lbig) (F_Llow : Fn0 K mg "_law_low" s_Llow) (F_Lworth_of : Fn0 K mg "_law_worth_of" s_Lworth_of) (F_Lmates : Fn0 K mg "_law_mates" s_Lmates) (F_Lcorners : Fn0 K mg "_law_corners" s_Lcorners) (F_Lcorner_behind : Fn0 K mg "_law_corner_behind" s_Lcorner_behind) (F_Lregion : Fn0 K mg "_law_region" s_Lregion) (F_Lgrown : Fn0 K mg "_law_grown" s_Lgrown) (F_Lnames : Fn0 K mg "_law_names" s_Lnames) (F_Lbegun : Fn0 K mg "_law_begun" s_Lbegun) (F_Lnet_by : Fn0 K mg "_law_net_by" s_Lnet_by) (F_Lcopy : Fn0 K mg "_law_copy" s_Lcopy) (F_Lsmall : Fn0 K mg "_law_small" s_Lsmall) (F_Ladd : Fn0 K mg "_law_add" s_Ladd) (F_Lmul : Fn0 K mg "_law_mul" s_Lmul) (F_Lless : Fn0 K mg "_law_less" s_Lless) (F_Lwhole : Fn0 K mg "_law_whole" s_Lwhole) (F_Lis_fraction : Fn0 K mg "_law_is_fraction" s_Lis_fraction) (F_Lis_grid : Fn0 K mg "_law_is_grid" s_Lis_grid) (F_Lties : Fn0 K mg "_law_ties" s_Lties) (F_Lwhole_grid : Fn0 K mg "_law_whole_grid" s_Lwhole_grid) (F_Ltaken : Fn0 K mg "_law_taken" s_Ltaken) (F_Lright : Fn0 K mg "_law_right" s_Lright) (F_law : Fn0 K mg "law" s_law) :
  ∃ fd : FuncData, (∀ (s : Shared) (v : Value), BindsTo s fd ⟨[v], []⟩ [("_law_script", v)]) ∧ ∀ base : Heap, K.In base → base.Ns mainGlobals mg → FnOk l.prog w K mg base CX0 6 fa fd ["_law_script"] (sp_law K) := by
 obtain ⟨f, fd, FL, m⟩ := F_law
 have e := hfa.symm.trans m
 cases e
 refine ⟨fd, ?_, fun base _ _ => ?_⟩
 ·obtain ⟨oc, od, kV, doc, pm, an, cdv, ct, osl, rfl, lk, hcd⟩ := FL.ex
  exact fun s v => .of_eq rfl
 ·have c1 := em_ (P := l.prog) (w := w) (base := base) T F_greatest_divisor 
  have c2 := jy_ T F_fraction c1
  have c3 := nA_ T F_plus c2
  have c4 := ml_ T F_minus c2
  have c5 := mn_ T F_times c2
  have c6 := nC_ T F_over c2
  have c7 := gx_ (P := l.prog) (w := w) (base := base) T F_ends_by_wire 
  have c8 := jA_ T hN F_pulls_of c7 c3 c4
  have c9 := iT_ (P := l.prog) (w := w) (base := base) T F_points_of 
  have c10 := iW_ (P := l.prog) (w := w) (base := base) T hN F_pull_grid 
  have c11 := gV_ T F_whole_table c9 c8 c10
  have c12 := i0_ T hN EX F_taken_out c6 c5 c4
  have r12 := hQ_ (P := l.prog) (w := w) (base := base) T hN EX F_taken_out
  have d1 := jn_ (P := l.prog) (w := w) (base := base) T F_Lcell_at 
  have d2 := ns_ T F_Lbig d1
  have d3 := nt_ (P := l.prog) (w := w) (base := base) T F_Llow 
  have d4 := iG_ T F_Lworth_of d3
  have d5 := ls_ (P := l.prog) (w := w) (base := base) T F_Lmates 
  have d6 := jq_ (P := l.prog) (w := w) (base := base) T F_Lcorners 
  have d7 := fb_ (P := l.prog) (w := w) (base := base) T F_Lcorner_behind 
  have d8 := kD_ T F_Lregion d7
  have d9 := lt_ T F_Lgrown d6 d5 d8
  have d10 := lw_ (P := l.prog) (w := w) (base := base) T F_Lnames 
  have d11 := lz_ (P := l.prog) (w := w) (base := base) T F_Lbegun 
  have d12 := kE_ T F_Lnet_by d2 d9 d10 d11 d4
  have d13 := mt_ (P := l.prog) (w := w) (base := base) T F_Lcopy 
  have d14 := lL_ T F_Lsmall d3
  have d15 := nE_ T F_Ladd d3
  have d16 := nG_ T F_Lmul d3
  have d17 := mp_ T F_Lless d3
  have d18 := lD_ (P := l.prog) (w := w) (base := base) T F_Lwhole 
  have d19 := gC_ T F_Lis_fraction d18 d3
  have d20 := jz_ T F_Lis_grid d19
  have d21 := mq_ (P := l.prog) (w := w) (base := base) T F_Lties 
  have d22 := gX_ T F_Lwhole_grid d21 d17 d15
  have d23 := lJ_ T EX F_Ltaken c12 r12
  have d24 := lQ_ T F_Lright d20 d17 d16
  exact om_ T hN FL d12 d14 d13 c11 d22 d20 d2 d23 d24
theorem walk {l : PySem.W.OpenLaw} {q : Program} {loose : List Str} {XP : (Str → Option Value) → Heap → Prop} {YP : World → Heap → Prop} {d : DefRec} {K : Params → PySem.W.Frag} (hn : l.most = some 63) (hdf : d.params.defaults = [])
  (hY : ∀ (w : World) (h : Heap), YP w h → (K w.params).In h)
  (F : ∀ (w : World) (mg : Str → Option Value) (fa : Addr) (h : Heap), (K w.params).In h → h.Ns mainGlobals mg → mg d.name = some (.ref fa) →
   ∃ fd : FuncData, (∀ (s : Shared) (u : Value), BindsTo s fd ⟨[u], []⟩ [("_law_script", u)]) ∧ ∀ base : Heap, (K w.params).In base → base.Ns mainGlobals mg → FnOk l.prog w (K w.params) mg base CX0 6 fa fd ["_law_script"] (sp_law (K w.params))) :
  PySem.W.WalkO q loose XP YP l.row.toRowW d [] (fun f vs => PySem.call f vs) :=
 L2.m2_ (n := 63) (k := 6) (x := "_law_script") (CX := fun _ => CX0) (sp := fun w => sp_law (K w.params)) hn (by decide) hdf ⟨rfl, by decide, by decide⟩ hY F (fun _ _ a ns hl _ hS => ⟨a, ns, rfl, hS, fun _ => rfl⟩) fun _ _ _ _ _ z => z
end Rim21
def PySem.W.Fast.tw9667886585814280006 : Nat := 0
def PySem.W.Fast.tw10275164322039104103 : Nat := 0
def PySem.W.Fast.tw5914032455886979723 : Nat := 0
def PySem.W.Fast.tw5696501716915577863 : Nat := 0
def PySem.W.Fast.tw4768456640968561987 : Nat := 0
def PySem.W.Fast.tw4574179820283968510 : Nat := 0
def PySem.W.Fast.tw10550596904770469876 : Nat := 0
def PySem.W.Fast.tw208805419180082729 : Nat := 0
def PySem.W.Fast.tw13689721282633546114 : Nat := 0
def PySem.W.Fast.tw10599665006994763557 : Nat := 0
def PySem.W.Fast.tw17375358645906942341 : Nat := 0
def PySem.W.Fast.tw14412483030595863062 : Nat := 0
def PySem.W.Fast.tw7523224877611187439 : Nat := 0
def PySem.W.Fast.tw1121565658231256653 : Nat := 0
def PySem.W.Fast.tw14922499200171858214 : Nat := 0
def PySem.W.Fast.tw1680363665976905894 : Nat := 0
def PySem.W.Fast.tw15063699068750170284 : Nat := 0
def PySem.W.Fast.tw7677443214101213200 : Nat := 0
def PySem.W.Fast.tw13127195196238052698 : Nat := 0
def PySem.W.Fast.tw4899672969417186553 : Nat := 0
def PySem.W.Fast.tw18383138354963071301 : Nat := 0
def PySem.W.Fast.tw17820261260294534466 : Nat := 0
open PySem PySem.W PyProof.Rows
set_option maxRecDepth 100000 in
set_option maxHeartbeats 0 in
theorem PySem.Challenge.cw_rimread_k21_points_taken_out_holds : PySem.Challenge.rw_rimread_k21_points_taken_out.Holds := by
 w_on; o_law; k_head; (case hw => w_witness2)
 k_fill
 refine Rim21.walk (l := PySem.Challenge.rw_rimread_k21_points_taken_out) rfl rfl (fun w h Y => PySem.W.kIn_of Y) ?F
 case F =>
  intro w mg fa h KX G hmg
  refine' Rim21.on_ (CR := ?CR) (CA := ?CA) (CO := ?CO) (CW := ?CW) (CN := ?CN) hmg ⟨?n_abs, ?n_max, ?n_min, ?n_ValueError, ?c_LONG_BITS, ?n_dict, ?n_len, ?n_range, ?n_list, ?n_isinstance, ?n_int, ?n_bool, ?n_tuple, ?n_str, ?n_enumerate, ?n_sorted⟩ ⟨?m1, ?m2, ?m3, ?m4, L2.n4_ ?x1, ⟨?x2, Rim21.cl_of ?x3, ?x4⟩, ?x5, ⟨Rim21.cl_of ?y1, ?y2, ?y3, ?y4, ?y5, ?y6, ?y7, ?y8⟩, ?x6, ?x7, ?x8⟩ (Rim21.nt_of KX G ?na ?nl) ?f_greatest_divisor ?f_fraction ?f_plus ?f_minus ?f_times ?f_over ?f_ends_by_wire ?f_pulls_of ?f_points_of ?f_pull_grid ?f_whole_table ?f_taken_out ?f_Lcell_at ?f_Lbig ?f_Llow ?f_Lworth_of ?f_Lmates ?f_Lcorners ?f_Lcorner_behind ?f_Lregion ?f_Lgrown ?f_Lnames ?f_Lbegun ?f_Lnet_by ?f_Lcopy ?f_Lsmall ?f_Ladd ?f_Lmul ?f_Lless ?f_Lwhole ?f_Lis_fraction ?f_Lis_grid ?f_Lties ?f_Lwhole_grid ?f_Ltaken ?f_Lright ?f_law
  case c_LONG_BITS => refine' L2.nZ_ KX G ?a; (case a => k_is)
  case m1 => refine' PySem.W.mg_of KX G ?a; (case a => k_is)
  case m2 => refine' PySem.W.mg_of KX G ?a; (case a => k_is)
  case m3 => refine' PySem.W.mg_of KX G ?a; (case a => k_is)
  case m4 => refine' PySem.W.mg_of KX G ?a; (case a => k_is)
  case x1 => k_exc
  case x2 => k_is
  case x3 => k_is
  case x4 => k_is
  case x5 => k_is
  case y1 => k_is
  case y2 => k_is
  case y3 => k_is
  case y4 => k_is
  case y5 => k_is
  case y6 => k_is
  case y7 => k_is
  case y8 => k_is
  case x6 => kit_is
  case x7 => kit_is
  case x8 => kit_is
  case na => k_is
  case nl => k_is
  case n_abs | n_max | n_min | n_ValueError | n_dict | n_len | n_range | n_list | n_isinstance | n_int | n_bool | n_tuple | n_str | n_enumerate | n_sorted => refine' PySem.W.mg_none_of KX G ?a; (case a => k_is)
  case f_greatest_divisor | f_fraction | f_plus | f_minus | f_times | f_over | f_ends_by_wire | f_pulls_of | f_points_of | f_pull_grid | f_whole_table | f_taken_out | f_Lcell_at | f_Lbig | f_Llow | f_Lworth_of | f_Lmates | f_Lcorners | f_Lcorner_behind | f_Lregion | f_Lgrown | f_Lnames | f_Lbegun | f_Lnet_by | f_Lcopy | f_Lsmall | f_Ladd | f_Lmul | f_Lless | f_Lwhole | f_Lis_fraction | f_Lis_grid | f_Lties | f_Lwhole_grid | f_Ltaken | f_Lright | f_law => refine' L2.nY_ KX G ?a ?l ?c ?k; (case a => k_is); (case l => k_is); (case c => k_is); (case k => k_is)
