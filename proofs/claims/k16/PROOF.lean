import PyProof.Rows.All
import Wide.All
import OpenK.AllK
import Wide.FinOn
import Lean
import PyProof.EqAt
import PyProof.EqKinds
import PyProof.TupleCall
import PySem.Challenge.RW_cagebells_k16_every_stand
set_option Elab.async false
set_option linter.all false
set_option maxRecDepth 100000
namespace L2
open PySem PySem.Spec PyProof.Rows

/-- a key: an int or a str -/
abbrev Key := Sum Int Str
def keyIs : Key → Value → Bool
  | .inl k, v => Value.isInt k v
  | .inr x, v => Value.isStrOf x v
def keyH (w : World) : Key → Int
  | .inl k => hashInt k
  | .inr x => hashStr w x
theorem keyIs_shape : ∀ {k : Key} {v : Value}, keyIs k v = true → (∃ i t, k = Sum.inl i ∧ v = Value.int i t) ∨ (∃ x t, k = Sum.inr x ∧ v = Value.str x t)
  | .inl i, v, h => by
    obtain ⟨t, e⟩ := Value.isInt_shape (k := i) (v := v) h
    exact .inl ⟨i, t, rfl, e⟩
  | .inr x, v, h => by
    obtain ⟨t, e⟩ := Value.isStrOf_shape (x := x) (v := v) h
    exact .inr ⟨x, t, rfl, e⟩
theorem key_ll (a b : Int) : decide ((Sum.inl a : Key) = Sum.inl b) = (a == b) := by
  by_cases e : a = b
  · subst e; simp
  · have h : ¬ (Sum.inl a : Key) = Sum.inl b := fun q => e (Sum.inl.inj q)
    rw [decide_eq_false h]
    exact (beq_eq_false_iff_ne.mpr e).symm
theorem key_rr (a b : Str) : decide ((Sum.inr a : Key) = Sum.inr b) = decide (a = b) := by
  by_cases e : a = b
  · subst e; simp
  · have h : ¬ (Sum.inr a : Key) = Sum.inr b := fun q => e (Sum.inr.inj q)
    rw [decide_eq_false h, decide_eq_false e]
theorem key_lr (a : Int) (b : Str) : decide ((Sum.inl a : Key) = Sum.inr b) = false := decide_eq_false (fun q => nomatch q)
theorem key_rl (a : Str) (b : Int) : decide ((Sum.inr a : Key) = Sum.inl b) = false := decide_eq_false (fun q => nomatch q)

def mixKind (prog : Program) (w : World) : PySem.KeyKind prog w Key where
  is := keyIs
  hash := keyH w
  inj := fun v a b ha hb => by
    rcases keyIs_shape ha with ⟨i, t, rfl, rfl⟩ | ⟨x, t, rfl, rfl⟩
    · rcases keyIs_shape hb with ⟨j, u, rfl, e⟩ | ⟨y, u, rfl, e⟩
      · injection e with e1 _; rw [e1]
      · exact nomatch e
    · rcases keyIs_shape hb with ⟨j, u, rfl, e⟩ | ⟨y, u, rfl, e⟩
      · exact nomatch e
      · injection e with e1 _; rw [e1]
  byValue := fun k v h => by
    rcases keyIs_shape h with ⟨i, t, rfl, rfl⟩ | ⟨x, t, rfl, rfl⟩ <;> rfl
  pyHash := fun hv h => by
    rcases keyIs_shape hv with ⟨i, t, rfl, rfl⟩ | ⟨x, t, rfl, rfl⟩
    · exact wpAny_pyHash_int h
    · exact wpAny_pyHash_str h
  eqBool := fun hu hv h => by
    rcases keyIs_shape hu with ⟨i, t, rfl, rfl⟩ | ⟨x, t, rfl, rfl⟩
    · rcases keyIs_shape hv with ⟨j, u, rfl, rfl⟩ | ⟨y, u, rfl, rfl⟩
      · rw [key_ll] at h; exact wpAny_eqBool_int h
      · rw [key_lr] at h; exact SeqAt.EqAt.int_str i t y u _ _ _ _ h
    · rcases keyIs_shape hv with ⟨j, u, rfl, rfl⟩ | ⟨y, u, rfl, rfl⟩
      · rw [key_rl] at h; exact SeqAt.EqAt.str_int x t j u _ _ _ _ h
      · rw [key_rr] at h; exact wpAny_eqBool_str h
  «strs» := fun k x t v h => by
    rcases keyIs_shape h with ⟨i, u, rfl, e⟩ | ⟨y, u, rfl, e⟩
    · exact nomatch e
    · injection e with e1 _
      subst e1
      cases v <;> rfl

end L2

namespace L2
open PySem PySem.Spec PyProof.Rows

/-- a value, without the heap -/
inductive V where
  | non | bl (b : Bool) | int (i : Int) | str (x : Str) | byt (b : Array UInt8) | flt (b : UInt64) | ref (a : Addr) | ty (n : String)
  deriving DecidableEq

def RelV : V → Value → Prop
  | .non, u => u = Value.none
  | .bl b, u => u = Value.bool b
  | .int i, u => ∃ t, u = Value.int i t
  | .str x, u => ∃ t, u = Value.str x t
  | .byt b, u => ∃ t, u = Value.bytes b t
  | .flt b, u => ∃ t, u = Value.float b t
  | .ref a, u => u = Value.ref a
  | .ty n, u => u = Value.type n

abbrev Vals : List V → List Value → Prop := Paired RelV
theorem Vals.length {xs : List V} {us : List Value} (r : Vals xs us) : xs.length = us.length := Paired.length r
theorem Vals.get : ∀ {xs : List V} {us : List Value} {i : Nat} {x : V}, Vals xs us → xs[i]? = some x → ∃ u, us[i]? = some u ∧ RelV x u
  | _, _, _, _, .nil, e => by simp at e
  | _, _, 0, _, .cons r _, e => by simp at e; subst e; exact ⟨_, rfl, r⟩
  | _, _, i + 1, x, .cons _ t, e => by
    obtain ⟨u, h1, h2⟩ := Vals.get (i := i) (x := x) t (by simpa using e)
    exact ⟨u, by simpa using h1, h2⟩
theorem Vals.set {x : V} {u : Value} (r : RelV x u) : ∀ {xs : List V} {us : List Value} (i : Nat), Vals xs us → Vals (xs.set i x) (us.set i u)
  | _, _, _, .nil => .nil
  | _, _, 0, .cons _ t => .cons r t
  | _, _, i + 1, .cons q t => .cons q (Vals.set r i t)
theorem Vals.append : ∀ {xs ys : List V} {us ws : List Value}, Vals xs us → Vals ys ws → Vals (xs ++ ys) (us ++ ws)
  | _, _, _, _, .nil, s => s
  | _, _, _, _, .cons r t, s => .cons r (Vals.append t s)
theorem Vals.take : ∀ {xs : List V} {us : List Value} (n : Nat), Vals xs us → Vals (xs.take n) (us.take n)
  | _, _, 0, _ => .nil
  | _, _, _ + 1, .nil => .nil
  | _, _, n + 1, .cons r t => .cons r (Vals.take n t)
theorem Vals.drop : ∀ {xs : List V} {us : List Value} (n : Nat), Vals xs us → Vals (xs.drop n) (us.drop n)
  | _, _, 0, r => r
  | _, _, _ + 1, .nil => .nil
  | _, _, n + 1, .cons _ t => Vals.drop n t
def RelO : Option V → Option Value → Prop
  | some v, some u => RelV v u
  | none, none => True
  | _, _ => False
def KV {κ : Type} : List (κ × V) → List (κ × Value) → Prop := Paired fun (p : κ × V) (q : κ × Value) => p.1 = q.1 ∧ RelV p.2 q.2

/-- a key of a dict (00_mix): an int or a text -/
def kV : Key → V
  | .inl i => .int i
  | .inr x => .str x

/-- what stands at a tracked address -/
inductive HO where
  /-- a list -/
  | lst (xs : List V)
  /-- a tuple (never changes) -/
  | tup (xs : List V)
  /-- a dict whose keys are ints and texts; one whose keys are tuples of ints and texts (the empty one is both) -/
  | dK (kvs : List (Key × V)) | dT (kvs : List (List Key × V))
  /-- a set of ints: its members, its size -/
  | set (S : Int → Bool) (n : Nat)
  /-- an instance of the class at C, its dict at dx, its attributes -/
  | ins (C dx : Addr) (fs : List (Str × V))
  /-- the dict of the instance at x -/
  | own (x : Addr)
  /-- the dict of an exception -/
  | xd (fs : List (Str × V))
  /-- a bound method, f of x -/
  | met (f x : Addr)
  /-- a range object lo, lo + 1, .. below hi -/
  | rng (lo hi : Int)
  /-- a thing that is known to the object (the script; a dict while a loop walks it): read, never written while it is so -/
  | frz (o : Obj) (u : HO)
  /-- a code object's table -/
  | tbl (ps : Array Value)
  /-- any other thing, by what is true of its one object (a def of one's own: SetO a S n := HO.ext fun h => ..) -/
  | ext (φ : Heap → Prop)

abbrev Hp := Addr → Option HO
def upd (H : Hp) (a : Addr) (o : HO) : Hp := fun b => if b = a then some o else H b
theorem upd_same {H : Hp} {a : Addr} {o : HO} : upd H a o a = some o := by unfold upd; rw [if_pos rfl]
theorem upd_ne {H : Hp} {a b : Addr} {o : HO} (h : b ≠ a) : upd H a o b = H b := by unfold upd; rw [if_neg h]
theorem upd_upd {H : Hp} {a : Addr} {o u : HO} : upd (upd H a o) a u = upd H a u := by
  funext b; unfold upd; split <;> rfl
theorem ne_of_none {H : Hp} {a b : Addr} {o : HO} (h : H a = some o) (h' : H b = none) : a ≠ b := by
  intro e; subst e; rw [h] at h'; cases h'

section
variable (P : Program) (w : World)
def ObjOk (H : Hp) (h : Heap) (a : Addr) : HO → Prop
  | .lst xs => xs.length ≤ sizeLine ∧ ∃ (its : List Value) (n : Nat), Vals xs its ∧ h.get? a = some { cls := .type "list", data := .seq its.toArray n }
  | .tup xs => xs.length ≤ sizeLine ∧ ∃ its : List Value, Vals xs its ∧ IsTup h a its.toArray
  | .dK kvs => kvs.length ≤ sizeLine ∧ (a == sysModules) = false ∧ ∃ vs, KV kvs vs ∧ h.DictOf (mixKind P w) a vs
  | .dT kvs => kvs.length ≤ sizeLine ∧ (a == sysModules) = false ∧ ∃ xs : List (List Key × Addr × Value),
      Paired (fun (p : List Key × V) (q : List Key × Addr × Value) => p.1 = q.1 ∧ H q.2.1 = some (.tup (p.1.map kV)) ∧ RelV p.2 q.2.2) kvs xs ∧
      ∃ o es ep, h.get? a = some o ∧ o.ExactDict ∧ o.data = .dict es ep ∧ es.toList = xs.map (entryOfKey (tupleKind (mixKind P w))) ∧ (xs.map (·.1)).Nodup
  | .set S n => h.SetOf (intKind P w) a S n
  | .ins C dx fs => H dx = some (.own a) ∧ fs.length ≤ 1000 ∧ dx ≠ a ∧ h.get? a = some (PySem.W.instObj C dx) ∧
      ∃ mA, h.Ns1 dx mA ∧ (∀ f, RelO (fs.lookup f) (mA f)) ∧ PySem.Within mA (fs.map (·.1))
  | .own _ => ∃ o, h.get? a = some o
  | .xd fs => ∃ mA, h.Ns1 a mA ∧ ∀ f, RelO (fs.lookup f) (mA f)
  | .rng lo hi => ∃ t u v, h.get? a = some { cls := .type "range", data := .fields #[.int lo t, .int hi u, .int 1 v] }
  | .frz o u => h.get? a = some o ∧ ObjOk H h a u
  | .tbl ps => h.get? a = some { cls := .none, data := .fields ps }
  | .met f x => h.get? a = some (PySem.W.methodObj (.ref f) (.ref x))
  | .ext φ => φ h ∧ (∃ o, h.get? a = some o) ∧ ∀ h1 h2 : Heap, φ h1 → (∀ o, h1.get? a = some o → h2.get? a = some o) → φ h2
/-- the abstract heap is held -/
def HOk (H : Hp) (h : Heap) : Prop := ∀ a o, H a = some o → ObjOk P w H h a o
end

section
variable {P : Program} {w : World} {H H' : Hp} {h h' : Heap} {a : Addr} {o : HO}
theorem ObjOk.lt (x : ObjOk P w H h a o) : a < h.objs.size := by
  cases o with
  | lst xs => obtain ⟨_, _, _, _, e⟩ := x; exact Heap.lt_size e
  | tup xs => obtain ⟨_, _, _, p⟩ := x; exact p.lt
  | dK kvs => obtain ⟨_, _, _, _, o, _, _, e, _⟩ := x; exact Heap.lt_size e
  | dT kvs => obtain ⟨_, _, _, _, o, _, _, e, _⟩ := x; exact Heap.lt_size e
  | set S n => obtain ⟨o, _, _, _, e, _⟩ := x; exact Heap.lt_size e
  | ins C dx fs => obtain ⟨_, _, _, e, _⟩ := x; exact Heap.lt_size e
  | own y => obtain ⟨_, e⟩ := x; exact Heap.lt_size e
  | xd fs => obtain ⟨_, ⟨_, _, _, e, _⟩, _⟩ := x; exact Heap.lt_size e
  | rng lo hi => obtain ⟨_, _, _, e⟩ := x; exact Heap.lt_size e
  | frz ob u => obtain ⟨e, _⟩ := x; exact Heap.lt_size e
  | tbl ps => exact Heap.lt_size (show h.get? a = some _ from x)
  | met f y => exact Heap.lt_size (show h.get? a = some _ from x)
  | ext φ => obtain ⟨_, ⟨_, e⟩, _⟩ := x; exact Heap.lt_size e
theorem Paired.mapP {α β : Type} {F G : α → β → Prop} : ∀ {l₁ : List α} {l₂ : List β}, Paired F l₁ l₂ → (∀ a b, F a b → G a b) → Paired G l₁ l₂
  | _, _, .nil, _ => .nil
  | _, _, .cons r t, f => .cons (f _ _ r) (Paired.mapP t f)
/-- what an object's description leans on: its own object, its own dict, the tuples -/
theorem ObjOk.stay (x : ObjOk P w H h a o) (k : ∀ b u, (b = a ∨ H b = some (.own a)) → h.get? b = some u → h'.get? b = some u)
    (ho : ∀ b, H b = some (.own a) → H' b = some (.own a)) (ht : ∀ b xs, H b = some (.tup xs) → H' b = some (.tup xs)) : ObjOk P w H' h' a o := by
  induction o with
  | lst xs => obtain ⟨z, its, n, r, e⟩ := x; exact ⟨z, its, n, r, k _ _ (.inl rfl) e⟩
  | tup xs => obtain ⟨z, its, r, ob, e, c⟩ := x; exact ⟨z, its, r, ob, k _ _ (.inl rfl) e, c⟩
  | dK kvs => obtain ⟨z, y, vs, r, ob, es, ep, e, c⟩ := x; exact ⟨z, y, vs, r, ob, es, ep, k _ _ (.inl rfl) e, c⟩
  | dT kvs =>
    obtain ⟨z, y, xs, r, ob, es, ep, e, c⟩ := x
    exact ⟨z, y, xs, Paired.mapP r fun p q z => ⟨z.1, ht _ _ z.2.1, z.2.2⟩, ob, es, ep, k _ _ (.inl rfl) e, c⟩
  | set S n => obtain ⟨ob, es, ep, t, e, c⟩ := x; exact ⟨ob, es, ep, t, k _ _ (.inl rfl) e, c⟩
  | ins C dx fs =>
    obtain ⟨d, z, ne, e, mA, ⟨od, es, ep, e2, c⟩, r⟩ := x
    exact ⟨ho _ d, z, ne, k _ _ (.inl rfl) e, mA, ⟨od, es, ep, k _ _ (.inr d) e2, c⟩, r⟩
  | own y => obtain ⟨ob, e⟩ := x; exact ⟨ob, k _ _ (.inl rfl) e⟩
  | xd fs => obtain ⟨mA, ⟨od, es, ep, e, c⟩, r⟩ := x; exact ⟨mA, ⟨od, es, ep, k _ _ (.inl rfl) e, c⟩, r⟩
  | rng lo hi => obtain ⟨t, u, v, e⟩ := x; exact ⟨t, u, v, k _ _ (.inl rfl) e⟩
  | frz ob u ih => obtain ⟨e, q⟩ := x; exact ⟨k _ _ (.inl rfl) e, ih q⟩
  | tbl ps =>
    have e : h.get? a = some { cls := .none, data := .fields ps } := x
    show h'.get? a = some { cls := .none, data := .fields ps }
    exact k a _ (.inl rfl) e
  | met f y =>
    have e : h.get? a = some (PySem.W.methodObj (.ref f) (.ref y)) := x
    show h'.get? a = some (PySem.W.methodObj (.ref f) (.ref y))
    exact k a _ (.inl rfl) e
  | ext φ => obtain ⟨p, ⟨o, e⟩, st⟩ := x; exact ⟨st _ _ p fun o q => k _ _ (.inl rfl) q, ⟨o, k _ _ (.inl rfl) e⟩, st⟩
theorem HOk.lt (x : HOk P w H h) (e : H a = some o) : a < h.objs.size := (x a o e).lt
theorem HOk.fresh (x : HOk P w H h) (e : h.objs.size ≤ a) : H a = none := by
  cases q : H a with
  | none => rfl
  | some u => exact absurd (Nat.lt_of_lt_of_le (x.lt q) e) (Nat.lt_irrefl _)
/-- every object of the heap is kept -/
theorem HOk.kept (x : HOk P w H h) (k : ∀ b u, h.get? b = some u → h'.get? b = some u) : HOk P w H h' := fun a o e =>
  (x a o e).stay (fun b u _ q => k b u q) (fun _ q => q) fun _ _ q => q
/-- a new object is laid and tracked -/
theorem HOk.laid (x : HOk P w H h) (k : ∀ b u, h.get? b = some u → h'.get? b = some u) (hp : h.objs.size ≤ a) (new : ObjOk P w (upd H a o) h' a o) : HOk P w (upd H a o) h' := fun b u e => by
  have hn := x.fresh hp
  by_cases hb : b = a
  · subst hb; rw [upd_same] at e; cases e; exact new
  · rw [upd_ne hb] at e
    exact (x b u e).stay (fun c v _ q => k c v q) (fun c q => by rw [upd_ne (ne_of_none q hn)]; exact q) fun c xs q => by rw [upd_ne (ne_of_none q hn)]; exact q
end

/-- what may be read as u: it is u, or a known u -/
def Rd (H : Hp) (a : Addr) (u : HO) : Prop := H a = some u ∨ ∃ o, H a = some (.frz o u)
theorem Rd.of {H : Hp} {a : Addr} {u : HO} (h : H a = some u) : Rd H a u := .inl h
theorem Rd.ok {P : Program} {w : World} {H : Hp} {h : Heap} {a : Addr} {u : HO} (r : Rd H a u) (x : HOk P w H h) : ObjOk P w H h a u := by
  rcases r with r | ⟨o, r⟩
  · exact x a u r
  · obtain ⟨_, q⟩ := x a _ r
    exact q
/-- what may be written -/
def Mut : Option HO → Prop
  | some (.lst _) => True
  | some (.dK _) => True
  | some (.dT _) => True
  | some (.set _ _) => True
  | some (.ins _ _ _) => True
  | some (.ext _) => True
  | _ => False
section
variable {P : Program} {w : World} {H : Hp} {h h' : Heap} {x e : Addr} {o' : HO}
/-- the object at e is changed: x itself, or the dict of the instance x -/
theorem HOk.write (ok : HOk P w H h) (mu : Mut (H x)) (he : e = x ∨ H e = some (.own x)) (k : ∀ b u, b ≠ e → h.get? b = some u → h'.get? b = some u) (heo : ∃ u, h'.get? e = some u)
    (new : ObjOk P w (upd H x o') h' x o') : HOk P w (upd H x o') h' := fun b u q => by
  have nown : ∀ c y, H c = some (.own y) → c ≠ x := fun c y r z => by subst z; rw [r] at mu; exact mu
  have ntup : ∀ c xs, H c = some (.tup xs) → c ≠ x := fun c xs r z => by subst z; rw [r] at mu; exact mu
  by_cases hb : b = x
  · subst hb; rw [upd_same] at q; cases q; exact new
  · rw [upd_ne hb] at q
    by_cases hbe : b = e
    · have q' : H b = some (.own x) := by
        rcases he with z | z
        · exact absurd (hbe.trans z) hb
        · rw [hbe]; exact z
      rw [q] at q'; cases q'
      obtain ⟨v, hv⟩ := heo
      exact ⟨v, by rw [hbe]; exact hv⟩
    · refine (ok b u q).stay (fun c v hc r => k c v ?_ r) (fun c r => by rw [upd_ne (nown c b r)]; exact r) fun c xs r => by rw [upd_ne (ntup c xs r)]; exact r
      rcases hc with rfl | hc
      · exact hbe
      · rintro rfl
        rcases he with z | z
        · exact nown c b hc z
        · rw [hc] at z; cases z; exact hb rfl
end

/-! ### kept unless tracked; of the frames at fs (the callers') the slots may change (an exception that passes writes there); of the records at ex (iterators) nothing is said -/
structure Un (fs ex : List Addr) (H H' : Hp) (h h' : Heap) : Prop where
  keep : ∀ b o, h.get? b = some o → H b = none → b ∉ fs → b ∉ ex → h'.get? b = some o
  slot : ∀ b o, h.get? b = some o → H b = none → b ∈ fs → b ∉ ex → ∃ sl, h'.get? b = some { o with slots := sl }
  free : ∀ b o, h.get? b = some o → H b = none → b ∉ ex → H' b = none
  there : ∀ b o, h.get? b = some o → b ∉ ex → ∃ o', h'.get? b = some o'
  tups : ∀ b xs, H b = some (.tup xs) → H' b = some (.tup xs)
  frzs : ∀ b o u, H b = some (.frz o u) → H' b = some (.frz o u)
  tbls : ∀ b ps, H b = some (.tbl ps) → ∃ more, H' b = some (.tbl (ps ++ more))
section
variable {fs fs' ex ex' : List Addr} {H H1 H2 : Hp} {h h1 h2 h' : Heap} {a x e : Addr} {o : HO}
theorem Un.any (u : Un fs ex H H1 h h1) {b : Addr} {ob : Obj} (q : h.get? b = some ob) (n : H b = none) (hx : b ∉ ex) : ∃ sl, h1.get? b = some { ob with slots := sl } := by
  by_cases hb : b ∈ fs
  · exact u.slot b ob q n hb hx
  · exact ⟨ob.slots, u.keep b ob q n hb hx⟩
theorem Un.trans (a : Un fs ex H H1 h h1) (b : Un fs ex H1 H2 h1 h2) : Un fs ex H H2 h h2 where
  keep := fun c ob q n hc hx => b.keep c ob (a.keep c ob q n hc hx) (a.free c ob q n hx) hc hx
  slot := fun c ob q n hc hx => by
    obtain ⟨sl, e1⟩ := a.slot c ob q n hc hx
    obtain ⟨sl', e2⟩ := b.slot c _ e1 (a.free c ob q n hx) hc hx
    exact ⟨sl', e2⟩
  free := fun c ob q n hx => by
    obtain ⟨o', e1⟩ := a.there c ob q hx
    exact b.free c o' e1 (a.free c ob q n hx) hx
  there := fun c ob q hx => by
    obtain ⟨o', e1⟩ := a.there c ob q hx
    exact b.there c o' e1 hx
  tups := fun c xs q => b.tups c xs (a.tups c xs q)
  frzs := fun c ob xs q => b.frzs c ob xs (a.frzs c ob xs q)
  tbls := fun c ps q => by
    obtain ⟨m1, e1⟩ := a.tbls c ps q
    obtain ⟨m2, e2⟩ := b.tbls c _ e1
    exact ⟨m1 ++ m2, by rw [e2, Array.append_assoc]⟩
theorem Un.kept (k : ∀ b u, h.get? b = some u → h'.get? b = some u) : Un fs ex H H h h' :=
  ⟨fun b ob q _ _ _ => k b ob q, fun b ob q _ _ _ => ⟨ob.slots, k b ob q⟩, fun _ _ _ n _ => n, fun b ob q _ => ⟨ob, k b ob q⟩, fun _ _ q => q, fun _ _ _ q => q, fun _ ps q => ⟨#[], by rw [q]; simp⟩⟩
theorem Un.refl : Un fs ex H H h h := Un.kept fun _ _ q => q
theorem Un.laid (k : ∀ b u, h.get? b = some u → h'.get? b = some u) (hp : h.objs.size ≤ a) (hn : H a = none) : Un fs ex H (upd H a o) h h' where
  keep := fun b u q _ _ _ => k b u q
  slot := fun b u q _ _ _ => ⟨u.slots, k b u q⟩
  free := fun b u q n _ => by rw [upd_ne (Nat.ne_of_lt (Nat.lt_of_lt_of_le (Heap.lt_size q) hp))]; exact n
  there := fun b u q _ => ⟨u, k b u q⟩
  tups := fun b xs q => by rw [upd_ne (ne_of_none q hn)]; exact q
  frzs := fun b u xs q => by rw [upd_ne (ne_of_none q hn)]; exact q
  tbls := fun b ps q => ⟨#[], by rw [upd_ne (ne_of_none q hn), q]; simp⟩
theorem Un.write (mu : Mut (H x)) (he : e = x ∨ H e = some (.own x)) (k : ∀ b u, b ≠ e → h.get? b = some u → h'.get? b = some u) (heo : ∃ u, h'.get? e = some u) : Un fs ex H (upd H x o) h h' := by
  have hx : ∀ b, H b = none → b ≠ x := fun b n z => by subst z; rw [n] at mu; exact mu
  have hb : ∀ b, H b = none → b ≠ e := fun b n z => by
    subst z
    rcases he with r | r
    · exact hx b n r
    · rw [n] at r; cases r
  have hm : ∀ b u, H b = some u → ¬ Mut (some u) → b ≠ x := fun b u q nm z => by subst z; rw [q] at mu; exact nm mu
  refine ⟨fun b u q n _ _ => k b u (hb b n) q, fun b u q n _ _ => ⟨u.slots, k b u (hb b n) q⟩, fun b u q n _ => by rw [upd_ne (hx b n)]; exact n, fun b u q _ => ?_,
    fun b xs q => by rw [upd_ne (hm b _ q fun z => z)]; exact q, fun b u xs q => by rw [upd_ne (hm b _ q fun z => z)]; exact q, fun b ps q => ⟨#[], by rw [upd_ne (hm b _ q fun z => z), q]; simp⟩⟩
  by_cases hbe : b = e
  · subst hbe; exact heo
  · exact ⟨u, k b u hbe q⟩
theorem Un.mono (u : Un fs ex H H1 h h1) (hs : ∀ b ∈ fs, b ∈ fs') (hx : ∀ b ∈ ex, b ∈ ex') : Un fs' ex' H H1 h h1 :=
  ⟨fun b ob q n hb he => u.keep b ob q n (fun z => hb (hs b z)) fun z => he (hx b z), fun _ _ q n _ he => u.any q n fun z => he (hx _ z), fun b ob q n he => u.free b ob q n fun z => he (hx b z), fun b ob q he => u.there b ob q fun z => he (hx b z), u.tups, u.frzs, u.tbls⟩
end

/-! ### the heap without what is tracked -/
def trk (h : Heap) (H : Hp) : List Addr := (List.range h.objs.size).filter fun a => (H a).isSome
def hidT (h : Heap) (H : Hp) : Heap := PySem.W.hideAll h (trk h H)
theorem hidT_size (h : Heap) (H : Hp) : (hidT h H).objs.size = h.objs.size := PySem.W.hideAll_size _ _
theorem hidT_get {h : Heap} {H : Hp} {b : Addr} {o : Obj} (e : h.get? b = some o) (n : H b = none) : (hidT h H).get? b = some o :=
  PySem.W.hideAll_get _ e fun hm => by
    have q : (H b).isSome = true := (List.mem_filter.mp hm).2
    rw [n] at q; simp at q
theorem of_hidT {h : Heap} {H : Hp} {b : Addr} {o : Obj} (e : (hidT h H).get? b = some o) : h.get? b = some o ∧ H b = none := by
  have e' : h.get? b = some o := PySem.W.of_hideAll (trk h H) e
  refine ⟨e', ?_⟩
  cases q : H b with
  | none => rfl
  | some x =>
    have hm : b ∈ trk h H := List.mem_filter.mpr ⟨List.mem_range.mpr (Heap.lt_size e'), by simp [q]⟩
    have z : (hidT h H).get? b = none := PySem.W.hideAll_none (trk h H) hm
    rw [z] at e; cases e

/-! ### OpenK's ledger, filled with every new object but one -/
def allNews (g h : Heap) (L : Addr) : List (Addr × Obj) := (List.range h.objs.size).filterMap fun a => if a = L ∨ (g.get? a).isSome = true then none else (h.get? a).map fun o => (a, o)
def rest (g h : Heap) (L d : Addr) : List (Addr × Obj) := (allNews g h L).filter fun p => decide (p.1 ≠ d)
end L2

namespace L2
open PySem PySem.Spec PyProof.Rows

/-- the module's facts, over the base: the heap at the law's entry without what is tracked there -/
structure Mod (K : PySem.W.Frag) (mg : Str → Option Value) (base : Heap) : Prop where
  kin : K.In base
  glob : base.Ns mainGlobals mg
  blt : ∃ mb, base.Ns builtinsNs mb ∧ ∀ x : Str, x ≠ "__name__" → mb x = bootBuiltins x
  nolimit : base.NoLimit

/-- the context: a def's body (or a comprehension's block) running. base: fixed through the whole law; s₀, H₀: the entry; outer: the frames whose slots others may change (a def's callers); stack: all frames that run;
   ex: iterators that were made ahead of the entry and are walked here (a comprehension's); fn: the names whose cells were made at the entry (a def: all; a comprehension's block: its own); calm: not within an except suite; pn: pins that every state bears; xe: what is wanted of an exception that leaves the code -/
structure Cx where
  prog : Program
  w : World
  K : PySem.W.Frag
  mg : Str → Option Value
  base : Heap
  A : Around
  N : List Str
  s₀ : Shared
  H₀ : Hp
  env : Env
  outer : List Env
  stack : List Env
  ex : List Addr
  fn : Str → Bool
  calm : Bool
  pn : List (Addr × Obj)
  xe : Value → Shared → Prop
/-- the callers' frames -/
def frs (l : List Env) : List Addr := l.filterMap (·.frame)
abbrev Cx.fs (X : Cx) : List Addr := frs X.outer

def Vis (sc : Scope) (x : Str) : Prop := sc.names.lookup x = some .local ∨ sc.names.lookup x = some .cell ∨ sc.names.lookup x = some .free
def Loc (sc : Scope) (x : Str) : Prop := sc.names.lookup x = some .local ∨ sc.names.lookup x = some .cell
def Look (env : Env) (h : Heap) (m : Str → Option Value) (x : Str) (u : Value) : Prop :=
  (env.kindOf x = some .local ∧ m x = some u) ∨ ((env.kindOf x = some .cell ∨ env.kindOf x = some .free) ∧ ∃ c, env.cells.lookup x = some c ∧ h.IsCell c (some u))

structure Cx.Ok (X : Cx) : Prop where
  mod : Mod X.K X.mg X.base
  kind : X.env.scope.kind = .function
  glob : X.env.globals = mainGlobals
  blt : X.env.builtins = builtinsNs
  above : X.s₀.heap.objs.size ≤ X.env.locals
  inj : ∀ x y c, X.env.cells.lookup x = some c → X.env.cells.lookup y = some c → x = y
  has : ∀ x, (X.env.kindOf x = some .cell ∨ X.env.kindOf x = some .free) → ∃ c, X.env.cells.lookup x = some c
  cab : ∀ x c, X.fn x = true → X.env.cells.lookup x = some c → X.s₀.heap.objs.size ≤ c
  hd : X.calm = true → X.A.handled = none
  frames : X.A.frames = some X.stack
  stk : X.stack = X.outer ∨ (X.stack = X.env :: X.outer ∧ X.env.frame = some X.env.locals)
  exf : ∀ b ∈ X.ex, b ≠ X.env.locals ∧ ∀ x c, X.env.cells.lookup x = some c → c ≠ b
  bs : ∀ b o, X.base.get? b = some o → X.s₀.heap.get? b = some o ∧ X.H₀ b = none
  bsz : X.base.objs.size ≤ X.s₀.heap.objs.size
  noex : ∀ b o, X.base.get? b = some o → b ∉ X.ex
  exfs : ∀ b ∈ X.ex, b ∉ X.fs
  funs : X.s₀.heap.FunFrames X.base X.outer
  frf : ∀ b ∈ X.fs, X.H₀ b = none

structure Inv (X : Cx) (pins : List (Addr × Obj)) (σ : List (Option V)) (H : Hp) (s : Shared) : Prop where
  ok : X.Ok
  os : s.os = X.s₀.os
  bare : AllBare s.gens
  base : Un X.fs X.ex X.H₀ H X.s₀.heap s.heap
  loc : ∃ m, s.heap.Ns X.env.locals m ∧ ∀ (i : Nat) (x : Str) (v : V), X.N[i]? = some x → σ[i]? = some (some v) → Vis X.env.scope x → ∃ u, RelV v u ∧ Look X.env s.heap m x u
  cell : ∀ x c, X.env.cells.lookup x = some c → ∃ v, s.heap.IsCell c v
  free : H X.env.locals = none
  freeC : ∀ x c, X.env.cells.lookup x = some c → H c = none
  pin : ∀ p ∈ X.pn ++ pins, s.heap.get? p.1 = some p.2 ∧ H p.1 = none ∧ p.1 ≠ X.env.locals ∧ p.1 ∉ X.fs ∧ ∀ v, p.2.data ≠ .cell v
  hok : HOk X.prog X.w H s.heap
  len : σ.length = X.N.length

section
variable {X : Cx} {pins : List (Addr × Obj)} {σ : List (Option V)} {H H' : Hp} {s : Shared} {h' : Heap}

theorem Cx.Ok.nofr (ok : X.Ok) {b : Addr} {o : Obj} (e : X.base.get? b = some o) : b ∉ X.fs := fun hb => by
  have := (ok.funs.mem hb).1
  rw [e] at this; cases this
theorem Inv.bs (I : Inv X pins σ H s) : ∀ b o, X.base.get? b = some o → s.heap.get? b = some o ∧ H b = none := fun b o e =>
  ⟨I.base.keep b o (I.ok.bs b o e).1 (I.ok.bs b o e).2 (I.ok.nofr e) (I.ok.noex b o e), I.base.free b o (I.ok.bs b o e).1 (I.ok.bs b o e).2 (I.ok.noex b o e)⟩
theorem Inv.bk (I : Inv X pins σ H s) : ∀ b o, X.base.get? b = some o → s.heap.get? b = some o := fun b o e => (I.bs b o e).1
theorem Inv.mod (I : Inv X pins σ H s) : Mod X.K X.mg X.base := I.ok.mod
theorem Inv.kIn (I : Inv X pins σ H s) : X.K.In s.heap := I.ok.mod.kin.keeps I.bk
theorem Inv.nolimit (I : Inv X pins σ H s) : s.heap.NoLimit := I.ok.mod.nolimit.keeps I.bk
theorem Inv.lt (I : Inv X pins σ H s) : X.env.locals < s.heap.objs.size := let ⟨_, hn, _⟩ := I.loc; hn.lt
theorem Inv.sz (I : Inv X pins σ H s) : X.s₀.heap.objs.size ≤ s.heap.objs.size := Nat.le_trans I.ok.above (Nat.le_of_lt I.lt)
theorem Inv.nofs (I : Inv X pins σ H s) {a : Addr} (h : s.heap.objs.size ≤ a) : a ∉ X.fs := fun hb => by
  obtain ⟨_, o, ho, _⟩ := I.ok.funs.mem hb
  exact absurd (Nat.lt_of_lt_of_le (Heap.lt_size ho) (Nat.le_trans I.sz h)) (Nat.lt_irrefl _)
theorem Inv.cne (I : Inv X pins σ H s) : ∀ x c, X.env.cells.lookup x = some c → c ≠ X.env.locals := fun x c e z => by
  obtain ⟨v, o, ho, hd⟩ := I.cell x c e
  obtain ⟨m, ⟨o', es, ep, ho', hd', _⟩, _⟩ := I.loc
  rw [z, ho'] at ho; cases ho; rw [hd'] at hd; cases hd
theorem Inv.funs (I : Inv X pins σ H s) : s.heap.FunFrames X.base X.outer := by
  have all : ∀ (l : List Env), (∀ b ∈ frs l, b ∈ X.fs) → X.s₀.heap.FunFrames X.base l → s.heap.FunFrames X.base l := by
    intro l
    induction l with
    | nil => intro _ _; trivial
    | cons env r ih =>
      intro hs hl
      obtain ⟨hk, ⟨L, o, hf, hn, ho, hd⟩, hr⟩ := hl
      have hL : L ∈ X.fs := hs L (by unfold frs; rw [List.filterMap_cons, hf]; exact List.mem_cons_self)
      obtain ⟨sl, e⟩ := I.base.slot L o ho (I.ok.frf L hL) hL fun z => I.ok.exfs L z hL
      exact ⟨hk, ⟨L, _, hf, hn, e, hd⟩, ih (fun b hb => hs b (by unfold frs; rw [List.filterMap_cons, hf]; exact List.mem_cons_of_mem _ hb)) hr⟩
  exact all X.outer (fun _ hb => hb) I.ok.funs

/-- the frames that run, for a call -/
theorem Inv.stack (I : Inv X pins σ H s) : s.heap.FunFrames X.base X.stack := by
  rcases I.ok.stk with e | ⟨e, hf⟩
  · rw [e]; exact I.funs
  · rw [e]
    obtain ⟨m, hn, _⟩ := I.loc
    refine .cons (by rw [I.ok.kind]; decide) hf hn ?_ I.funs
    exact Heap.get?_none_of_le (Nat.le_trans I.ok.bsz I.ok.above)
theorem Inv.stkSub (I : Inv X pins σ H s) : ∀ b ∈ frs X.stack, b ∈ X.env.locals :: X.fs := fun b hb => by
  rcases I.ok.stk with e | ⟨e, hf⟩
  · rw [e] at hb; exact List.mem_cons_of_mem _ hb
  · rw [e] at hb
    unfold frs at hb
    rw [List.filterMap_cons, hf] at hb
    exact hb
theorem Inv.stkFree (I : Inv X pins σ H s) : ∀ b ∈ frs X.stack, H b = none := fun b hb => by
  rcases List.mem_cons.mp (I.stkSub b hb) with e | hb
  · rw [e]; exact I.free
  · obtain ⟨_, o, ho, _⟩ := I.ok.funs.mem hb
    exact I.base.free b o ho (I.ok.frf b hb) fun z => I.ok.exfs b z hb

/-- THE STEP: the untracked objects but the frame and the records at ch are kept (the callers' frames up to slots), the frame's map is kept, the new abstract heap is held -/
theorem Inv.step {g' : Array GenState} {t' : Nat} {d' : Drawn} {ch : List Addr} (I : Inv X pins σ H s)
    (hch : ∀ b ∈ ch, (b ∈ X.ex ∨ X.s₀.heap.objs.size ≤ b) ∧ b ≠ X.env.locals ∧ (∀ x c, X.env.cells.lookup x = some c → c ≠ b) ∧ ∀ p ∈ X.pn ++ pins, p.1 ≠ b)
    (keep : ∀ b o, b ≠ X.env.locals → b ∉ X.fs → b ∉ ch → s.heap.get? b = some o → H b = none → h'.get? b = some o)
    (slot : ∀ b o, b ≠ X.env.locals → b ∈ X.fs → b ∉ ch → s.heap.get? b = some o → H b = none → ∃ sl, h'.get? b = some { o with slots := sl }) (free : ∀ b o, b ∉ ch → s.heap.get? b = some o → H b = none → H' b = none)
    (there : ∀ b o, b ∉ ch → s.heap.get? b = some o → ∃ o', h'.get? b = some o')
    (tups : ∀ b xs, H b = some (.tup xs) → H' b = some (.tup xs)) (frzs : ∀ b o u, H b = some (.frz o u) → H' b = some (.frz o u)) (tbls : ∀ b ps, H b = some (.tbl ps) → ∃ more, H' b = some (.tbl (ps ++ more)))
    (ns : ∀ m, s.heap.Ns X.env.locals m → h'.Ns X.env.locals m) (hok : HOk X.prog X.w H' h') (hg : AllBare g') :
    Inv X pins σ H' { s with heap := h', gens := g', drawn := d', toks := t' } := by
  have neL : ∀ b o, X.s₀.heap.get? b = some o → b ≠ X.env.locals := fun b o e => Nat.ne_of_lt (Nat.lt_of_lt_of_le (Heap.lt_size e) I.ok.above)
  have neC : ∀ b o, X.s₀.heap.get? b = some o → b ∉ X.ex → b ∉ ch := fun b o e hx hb => by
    rcases (hch b hb).1 with z | z
    · exact hx z
    · exact absurd (Nat.lt_of_lt_of_le (Heap.lt_size e) z) (Nat.lt_irrefl _)
  have cellK : ∀ x c, X.env.cells.lookup x = some c → ∀ v, s.heap.IsCell c v → h'.IsCell c v := fun x c e v ⟨o, ho, hd⟩ => by
    have nch : c ∉ ch := fun z => (hch c z).2.2.1 x c e rfl
    by_cases hc : c ∈ X.fs
    · obtain ⟨sl, q⟩ := slot c o (I.cne x c e) hc nch ho (I.freeC x c e)
      exact ⟨_, q, hd⟩
    · exact ⟨o, keep c o (I.cne x c e) hc nch ho (I.freeC x c e), hd⟩
  refine ⟨I.ok, I.os, hg, ⟨fun b o e n hb hx => ?_, fun b o e n hb hx => ?_, fun b o e n hx => ?_, fun b o e hx => ?_, fun b xs e => tups b xs (I.base.tups b xs e), fun b o xs e => frzs b o xs (I.base.frzs b o xs e), fun b ps e => ?_⟩, ?_, fun x c e => ?_, ?_, fun x c e => ?_, fun p hp => ?_, hok, I.len⟩
  · exact keep b o (neL b o e) hb (neC b o e hx) (I.base.keep b o e n hb hx) (I.base.free b o e n hx)
  · obtain ⟨sl, e1⟩ := I.base.slot b o e n hb hx
    obtain ⟨sl', e2⟩ := slot b _ (neL b o e) hb (neC b o e hx) e1 (I.base.free b o e n hx)
    exact ⟨sl', e2⟩
  · obtain ⟨o', e1⟩ := I.base.there b o e hx
    exact free b o' (neC b o e hx) e1 (I.base.free b o e n hx)
  · obtain ⟨o', e1⟩ := I.base.there b o e hx
    exact there b o' (neC b o e hx) e1
  · obtain ⟨m1, e1⟩ := I.base.tbls b ps e
    obtain ⟨m2, e2⟩ := tbls b _ e1
    exact ⟨m1 ++ m2, by rw [e2, Array.append_assoc]⟩
  · obtain ⟨m, hn, hl⟩ := I.loc
    refine ⟨m, ns m hn, fun i x v e1 e2 e3 => ?_⟩
    obtain ⟨u, r, l⟩ := hl i x v e1 e2 e3
    refine ⟨u, r, ?_⟩
    rcases l with l | ⟨k, c, e, z⟩
    · exact .inl l
    · exact .inr ⟨k, c, e, cellK x c e _ z⟩
  · obtain ⟨v, z⟩ := I.cell x c e
    exact ⟨v, cellK x c e v z⟩
  · obtain ⟨m, ⟨o, _, _, ho, _⟩, _⟩ := I.loc
    exact free _ o (fun z => (hch _ z).2.1 rfl) ho I.free
  · obtain ⟨v, o, ho, hd⟩ := I.cell x c e
    exact free c o (fun z => (hch c z).2.2.1 x c e rfl) ho (I.freeC x c e)
  · obtain ⟨e, n, ne, nf, d⟩ := I.pin p hp
    have nch : p.1 ∉ ch := fun z => (hch p.1 z).2.2.2 p hp rfl
    exact ⟨keep p.1 p.2 ne nf nch e n, free p.1 p.2 nch e n, ne, nf, d⟩
/-- .. where the frame's own object is kept too -/
theorem Inv.un {t' : Nat} (I : Inv X pins σ H s) (u : Un X.fs [] H H' s.heap h') (hok : HOk X.prog X.w H' h') : Inv X pins σ H' { s with heap := h', toks := t' } := by
  obtain ⟨m, ⟨o, es, ep, ho, r⟩, _⟩ := id I.loc
  obtain ⟨sl, hL⟩ := u.any ho I.free (by simp)
  exact I.step (g' := s.gens) (d' := s.drawn) (ch := []) (fun _ z => nomatch z) (fun b o _ hb _ e n => u.keep b o e n hb (by simp)) (fun b o _ hb _ e n => u.slot b o e n hb (by simp)) (fun b o _ e n => u.free b o e n (by simp)) (fun b o _ e => u.there b o e (by simp)) u.tups u.frzs u.tbls (fun m' hm => by
    obtain ⟨o', es', ep', ho', r'⟩ := hm
    rw [ho] at ho'; cases ho'
    exact ⟨_, es', ep', hL, r'⟩) hok I.bare
/-- behind a call (or a comprehension's block): the slots of this frame may have changed too, the records at ch may have turned -/
theorem Inv.call {g' : Array GenState} {t' : Nat} {d' : Drawn} {ch : List Addr} (I : Inv X pins σ H s) (u : Un (frs X.stack) ch H H' s.heap h') (hok : HOk X.prog X.w H' h') (hg : AllBare g')
    (hch : ∀ b ∈ ch, (b ∈ X.ex ∨ X.s₀.heap.objs.size ≤ b) ∧ b ≠ X.env.locals ∧ (∀ x c, X.env.cells.lookup x = some c → c ≠ b) ∧ ∀ p ∈ X.pn ++ pins, p.1 ≠ b) :
    Inv X pins σ H' { s with heap := h', gens := g', drawn := d', toks := t' } := by
  obtain ⟨m, ⟨o, es, ep, ho, r⟩, _⟩ := id I.loc
  obtain ⟨sl, hL⟩ := u.any ho I.free fun z => (hch _ z).2.1 rfl
  exact I.step (ch := ch) hch (fun b o hL hb hc e n => u.keep b o e n (fun z => (List.mem_cons.mp (I.stkSub b z)).elim hL hb) hc) (fun b o _ _ hc e n => u.any e n hc) (fun b o hc e n => u.free b o e n hc) (fun b o hc e => u.there b o e hc) u.tups u.frzs u.tbls (fun m' hm => by
    obtain ⟨o', es', ep', ho', r'⟩ := hm
    rw [ho] at ho'; cases ho'
    exact ⟨_, es', ep', hL, r'⟩) hok hg
/-- an untracked record of ours (an iterator) has turned -/
theorem Inv.turned {t' : Nat} {it : Addr} (I : Inv X pins σ H s) (k : ∀ b o, b ≠ it → s.heap.get? b = some o → h'.get? b = some o) (hn : H it = none) (hL : it ≠ X.env.locals)
    (h1 : it ∈ X.ex ∨ X.s₀.heap.objs.size ≤ it) (h2 : ∀ x c, X.env.cells.lookup x = some c → c ≠ it) (h3 : ∀ p ∈ X.pn ++ pins, p.1 ≠ it) : Inv X pins σ H { s with heap := h', toks := t' } := by
  have nit : ∀ b u, H b = some u → b ≠ it := fun b u e z => by rw [z, hn] at e; cases e
  refine I.step (g' := s.gens) (d' := s.drawn) (ch := [it]) (fun b hb => ?_) (fun b o _ _ hc e _ => k b o (fun z => hc (by simp [z])) e) (fun b o _ _ hc e _ => ⟨o.slots, k b o (fun z => hc (by simp [z])) e⟩) (fun _ _ _ _ n => n)
    (fun b o hc e => ⟨o, k b o (fun z => hc (by simp [z])) e⟩) (fun _ _ e => e) (fun _ _ _ e => e) (fun b ps e => ⟨#[], by rw [e]; simp⟩) (fun m hm => ?_) (fun b u e => ?_) I.bare
  · have e : b = it := by simpa using hb
    subst e
    exact ⟨h1, hL, h2, h3⟩
  · obtain ⟨o, es, ep, ho, r⟩ := hm
    exact ⟨o, es, ep, k _ o (Ne.symm hL) ho, r⟩
  · refine (I.hok b u e).stay (fun c v hc q => k c v ?_ q) (fun _ q => q) fun _ _ q => q
    rcases hc with z | z
    · rw [z]; exact nit b u e
    · exact nit c _ z
theorem Inv.tok (I : Inv X pins σ H s) (t : Nat) : Inv X pins σ H { s with toks := t } := I.un (h' := s.heap) (t' := t) Un.refl I.hok
/-- all objects kept -/
theorem Inv.kept {t' : Nat} (I : Inv X pins σ H s) (k : ∀ b u, s.heap.get? b = some u → h'.get? b = some u) : Inv X pins σ H { s with heap := h', toks := t' } := I.un (Un.kept k) (I.hok.kept k)
/-- a new object laid and tracked -/
theorem Inv.laid {a : Addr} {o : HO} {t' : Nat} (I : Inv X pins σ H s) (k : ∀ b u, s.heap.get? b = some u → h'.get? b = some u) (hp : s.heap.objs.size ≤ a) (new : ObjOk X.prog X.w (upd H a o) h' a o) :
    Inv X pins σ (upd H a o) { s with heap := h', toks := t' } := I.un (Un.laid k hp (I.hok.fresh hp)) (I.hok.laid k hp new)
/-- an object written -/
theorem Inv.write {x e : Addr} {o : HO} {t' : Nat} (I : Inv X pins σ H s) (mu : Mut (H x)) (he : e = x ∨ H e = some (.own x)) (k : ∀ b u, b ≠ e → s.heap.get? b = some u → h'.get? b = some u) (heo : ∃ u, h'.get? e = some u)
    (new : ObjOk X.prog X.w (upd H x o) h' x o) : Inv X pins σ (upd H x o) { s with heap := h', toks := t' } := I.un (Un.write mu he k heo) (I.hok.write mu he k heo new)
/-- forgetting slots, pins -/
theorem Inv.weak {σ' : List (Option V)} (I : Inv X pins σ H s) (hl : σ'.length = σ.length) (w : ∀ (i : Nat) v, σ'[i]? = some (some v) → σ[i]? = some (some v)) : Inv X pins σ' H s :=
  ⟨I.ok, I.os, I.bare, I.base, let ⟨m, hn, hl'⟩ := I.loc; ⟨m, hn, fun i x v e1 e2 e3 => hl' i x v e1 (w i v e2) e3⟩, I.cell, I.free, I.freeC, I.pin, I.hok, hl.trans I.len⟩
theorem Inv.pins_of {pins' : List (Addr × Obj)} (I : Inv X pins σ H s) (h : ∀ p ∈ pins', s.heap.get? p.1 = some p.2 ∧ H p.1 = none ∧ p.1 ≠ X.env.locals ∧ p.1 ∉ X.fs ∧ ∀ v, p.2.data ≠ .cell v) : Inv X pins' σ H s :=
  ⟨I.ok, I.os, I.bare, I.base, I.loc, I.cell, I.free, I.freeC, fun p hp => (List.mem_append.mp hp).elim (fun z => I.pin p (List.mem_append_left _ z)) (h p), I.hok, I.len⟩

theorem nodup_ix {N : List Str} (hN : N.Nodup) {i j : Nat} {x : Str} (a : N[i]? = some x) (b : N[j]? = some x) : i = j := by
  obtain ⟨h1, e1⟩ := List.getElem?_eq_some_iff.mp a
  obtain ⟨h2, e2⟩ := List.getElem?_eq_some_iff.mp b
  exact (List.getElem_inj hN).mp (e1.trans e2.symm)

/-- a name is stored; what changed -/
theorem store_ok2 {M : Model} {A : Around} {E : Value → Shared → Prop} {i : Nat} {x : Str} {v : V} {u : Value} {Q : Unit → Shared → Prop} (I : Inv X pins σ H s) (hN : X.N.Nodup) (hi : X.N[i]? = some x) (hx : Loc X.env.scope x) (r : RelV v u)
    (h : ∀ s', Inv X pins (σ.set i (some v)) H s' → (∃ a, Heap.SameBut a s.heap s'.heap ∧ (a = X.env.locals ∨ X.env.cells.lookup x = some a)) → Q () s') (hf : X.fn x = true ∨ X.env.scope.names.lookup x = some .local := by first | exact .inl rfl | exact .inr rfl | assumption) : wpAny M A (storeName X.env x u) Q E s := by
  obtain ⟨m, hn, hl⟩ := id I.loc
  have hcls : (X.env.scope.kind == .class || (X.env.scope.kind == .module && X.env.locals != X.env.globals)) = false := by rw [I.ok.kind]; rfl
  have hiσ : i < σ.length := by rw [I.len]; exact (List.getElem?_eq_some_iff.mp hi).1
  have cne := I.cne
  have tracked : ∀ {a : Addr} {h' : Heap}, (∃ o, s.heap.get? a = some o ∧ H a = none) → Heap.SameBut a s.heap h' → HOk X.prog X.w H h' := fun {a h'} ha hs b ob e => by
    obtain ⟨_, _, hfree⟩ := ha
    refine (I.hok b ob e).stay (fun c w' hc q => (hs.2 c ?_).trans q) (fun _ q => q) fun _ _ q => q
    rintro rfl
    rcases hc with rfl | hc
    · rw [hfree] at e; cases e
    · rw [hfree] at hc; cases hc
  rcases hx with hk | hk
  · refine wpAny_storeName_local hk hn (fun h' hn' hs => ?_) hcls
    obtain ⟨oL, _, _, hoL, _⟩ := id hn
    refine h _ ⟨I.ok, I.os, I.bare, ⟨fun b o e n hb hx => ?_, fun b o e n hb hx => ?_, I.base.free, fun b o e hx => ?_, I.base.tups, I.base.frzs, I.base.tbls⟩, ⟨_, hn', fun j y v' e1 e2 e3 => ?_⟩, fun y c e => ?_, I.free, I.freeC, fun p hp => ?_, tracked ⟨oL, hoL, I.free⟩ hs, by simpa using I.len⟩ ⟨_, hs, .inl rfl⟩
    · exact (hs.2 b (Nat.ne_of_lt (Nat.lt_of_lt_of_le (Heap.lt_size e) I.ok.above))).trans (I.base.keep b o e n hb hx)
    · obtain ⟨sl, e1⟩ := I.base.slot b o e n hb hx
      exact ⟨sl, (hs.2 b (Nat.ne_of_lt (Nat.lt_of_lt_of_le (Heap.lt_size e) I.ok.above))).trans e1⟩
    · obtain ⟨o', e1⟩ := I.base.there b o e hx
      exact ⟨o', (hs.2 b (Nat.ne_of_lt (Nat.lt_of_lt_of_le (Heap.lt_size e) I.ok.above))).trans e1⟩
    · by_cases hj : j = i
      · subst hj
        rw [hi] at e1; cases e1
        rw [List.getElem?_set_self hiσ] at e2
        cases e2
        exact ⟨u, r, .inl ⟨hk, by simp⟩⟩
      · rw [List.getElem?_set_ne (Ne.symm hj)] at e2
        obtain ⟨u', r', q⟩ := hl j y v' e1 e2 e3
        refine ⟨u', r', ?_⟩
        rcases q with ⟨k, e⟩ | ⟨k, c, e, z⟩
        · refine .inl ⟨k, ?_⟩
          have : y ≠ x := fun e => hj (nodup_ix hN e1 (e ▸ hi))
          simp [this, e]
        · exact .inr ⟨k, c, e, z.sameBut hs (cne y c e)⟩
    · obtain ⟨w', z⟩ := I.cell y c e
      exact ⟨w', z.sameBut hs (cne y c e)⟩
    · obtain ⟨e, n, ne, nf, d⟩ := I.pin p hp
      exact ⟨(hs.2 p.1 ne).trans e, n, ne, nf, d⟩
  · have hfn : X.fn x = true := by
      rcases hf with z | z
      · exact z
      · rw [z] at hk; cases hk
    obtain ⟨c, hc⟩ := I.ok.has x (.inl hk)
    obtain ⟨w', z⟩ := I.cell x c hc
    refine wpAny_storeName_cell I.ok.kind hk hc z (fun h' hc' hs => ?_)
    obtain ⟨oc, hoc, hocd⟩ := id z
    refine h { s with heap := h' } ⟨I.ok, I.os, I.bare, ⟨fun b o e n hb hx => ?_, fun b o e n hb hx => ?_, I.base.free, fun b o e hx => ?_, I.base.tups, I.base.frzs, I.base.tbls⟩, ⟨m, hn.sameBut hs (Ne.symm (cne x c hc)), fun j y v' e1 e2 e3 => ?_⟩, fun y c' e => ?_, I.free, I.freeC, fun p hp => ?_, tracked ⟨oc, hoc, I.freeC x c hc⟩ hs, by simpa using I.len⟩ ⟨c, hs, .inr hc⟩
    · exact (hs.2 b (Nat.ne_of_lt (Nat.lt_of_lt_of_le (Heap.lt_size e) (I.ok.cab x c hfn hc)))).trans (I.base.keep b o e n hb hx)
    · obtain ⟨sl, e1⟩ := I.base.slot b o e n hb hx
      exact ⟨sl, (hs.2 b (Nat.ne_of_lt (Nat.lt_of_lt_of_le (Heap.lt_size e) (I.ok.cab x c hfn hc)))).trans e1⟩
    · obtain ⟨o', e1⟩ := I.base.there b o e hx
      exact ⟨o', (hs.2 b (Nat.ne_of_lt (Nat.lt_of_lt_of_le (Heap.lt_size e) (I.ok.cab x c hfn hc)))).trans e1⟩
    · by_cases hj : j = i
      · subst hj
        rw [hi] at e1; cases e1
        rw [List.getElem?_set_self hiσ] at e2
        cases e2
        exact ⟨u, r, .inr ⟨.inl hk, c, hc, hc'⟩⟩
      · rw [List.getElem?_set_ne (Ne.symm hj)] at e2
        obtain ⟨u', r', q⟩ := hl j y v' e1 e2 e3
        refine ⟨u', r', ?_⟩
        rcases q with q | ⟨k, c', e, z'⟩
        · exact .inl q
        · refine .inr ⟨k, c', e, z'.sameBut hs ?_⟩
          rintro rfl
          exact hj (nodup_ix hN e1 (I.ok.inj _ _ _ e hc ▸ hi))
    · by_cases hcc : c' = c
      · subst hcc; exact ⟨_, hc'⟩
      · obtain ⟨w2, z2⟩ := I.cell y c' e
        exact ⟨w2, z2.sameBut hs hcc⟩
    · obtain ⟨e, n, ne, nf, d⟩ := I.pin p hp
      refine ⟨(hs.2 p.1 ?_).trans e, n, ne, nf, d⟩
      intro q
      rw [q, hoc] at e
      have q' : oc = p.2 := Option.some.inj e
      exact d w' (by rw [← q']; exact hocd)
theorem store_ok {M : Model} {A : Around} {E : Value → Shared → Prop} {i : Nat} {x : Str} {v : V} {u : Value} {Q : Unit → Shared → Prop} (I : Inv X pins σ H s) (hN : X.N.Nodup) (hi : X.N[i]? = some x) (hx : Loc X.env.scope x) (r : RelV v u)
    (h : ∀ s', Inv X pins (σ.set i (some v)) H s' → Q () s') (hf : X.fn x = true ∨ X.env.scope.names.lookup x = some .local := by first | exact .inl rfl | exact .inr rfl | assumption) : wpAny M A (storeName X.env x u) Q E s :=
  store_ok2 I hN hi hx r (fun s' I' _ => h s' I') hf
/-- behind a call or a block, the state as it is -/
theorem Inv.call' {s' : Shared} {ch : List Addr} (I : Inv X pins σ H s) (ho : s'.os = s.os) (u : Un (frs X.stack) ch H H' s.heap s'.heap) (hok : HOk X.prog X.w H' s'.heap) (hg : AllBare s'.gens)
    (hch : ∀ b ∈ ch, (b ∈ X.ex ∨ X.s₀.heap.objs.size ≤ b) ∧ b ≠ X.env.locals ∧ (∀ x c, X.env.cells.lookup x = some c → c ≠ b) ∧ ∀ p ∈ X.pn ++ pins, p.1 ≠ b) : Inv X pins σ H' s' := by
  obtain ⟨h', g', d', t', o'⟩ := s'
  have e : o' = s.os := ho
  subst e
  exact I.call (g' := g') (t' := t') (d' := d') u hok hg hch
end

/-- an exception: its class, its own dict's address (where it has one), the abstract heap behind it -/
abbrev XK := Value → Option Addr → Hp → Prop
abbrev St := List (Option V)
abbrev VK := V → Hp → Prop
/-- an expression's reading; a test's; an argument list's -/
abbrev TE := St → Hp → VK → Prop
abbrev TT := St → Hp → (Bool → Hp → Prop) → Prop
abbrev TA := St → Hp → (List V → Hp → Prop) → Prop
/-- what is wanted behind a statement -/
structure Ends where
  nx : St → Hp → Prop
  rt : VK
  bk : St → Hp → Prop := fun _ _ => False
  ct : St → Hp → Prop := fun _ _ => False
abbrev TS := Ends → St → Hp → Prop

def EP (X : Cx) (pins : List (Addr × Obj)) (σ : St) (Q : VK) (u : Value) (s' : Shared) : Prop := ∃ v H', Inv X pins σ H' s' ∧ RelV v u ∧ Q v H'
def TP (X : Cx) (pins : List (Addr × Obj)) (σ : St) (Q : Bool → Hp → Prop) (b : Bool) (s' : Shared) : Prop := ∃ H', Inv X pins σ H' s' ∧ Q b H'
def AP (X : Cx) (pins : List (Addr × Obj)) (σ : St) (Q : List V → Hp → Prop) (us : List Value) (s' : Shared) : Prop := ∃ vs H', Inv X pins σ H' s' ∧ Vals vs us ∧ Q vs H'
def SP (X : Cx) (pins : List (Addr × Obj)) (D : Ends) (f : Flow) (s' : Shared) : Prop :=
  match f with
  | .next => ∃ σ' H', Inv X pins σ' H' s' ∧ D.nx σ' H'
  | .brk => ∃ σ' H', Inv X pins σ' H' s' ∧ D.bk σ' H'
  | .cont => ∃ σ' H', Inv X pins σ' H' s' ∧ D.ct σ' H'
  | .ret u => ∃ v σ' H', Inv X pins σ' H' s' ∧ RelV v u ∧ D.rt v H'

def PE (X : Cx) (e : Expr) (t : TE) : Prop :=
  ∀ (pins : List (Addr × Obj)) (s : Shared) (σ : St) (H : Hp) (Q : VK), Inv X pins σ H s → t σ H Q → wpAny (model X.prog X.w) X.A (eval e X.env) (EP X pins σ Q) X.xe s
def PT (X : Cx) (e : Expr) (t : TT) : Prop :=
  ∀ (pins : List (Addr × Obj)) (s : Shared) (σ : St) (H : Hp) (Q : Bool → Hp → Prop), Inv X pins σ H s → t σ H Q → wpAny (model X.prog X.w) X.A (isTrue e X.env (eval e X.env)) (TP X pins σ Q) X.xe s
/-- a test whatever its 'whole' is (and, or) -/
def PW (X : Cx) (e : Expr) (t : TT) : Prop :=
  ∀ (whole : Sem Value) (pins : List (Addr × Obj)) (s : Shared) (σ : St) (H : Hp) (Q : Bool → Hp → Prop), Inv X pins σ H s → t σ H Q → wpAny (model X.prog X.w) X.A (isTrue e X.env whole) (TP X pins σ Q) X.xe s
theorem PW.pt {X : Cx} {e : Expr} {t : TT} (h : PW X e t) : PT X e t := h _
/-- an argument list (no star), from the left -/
def PA (X : Cx) (es : List Expr) (t : TA) : Prop :=
  ∀ (pos : Pos) (pins : List (Addr × Obj)) (s : Shared) (σ : St) (H : Hp) (Q : List V → Hp → Prop), Inv X pins σ H s → t σ H Q → wpAny (model X.prog X.w) X.A (spliced (backTo pos (starEach es X.env))) (AP X pins σ Q) X.xe s
def PS (X : Cx) (st : Stmt) (t : TS) : Prop :=
  ∀ (pins : List (Addr × Obj)) (s : Shared) (σ : St) (H : Hp) (D : Ends), Inv X pins σ H s → t D σ H → wpAny (model X.prog X.w) X.A (exec st X.env) (SP X pins D) X.xe s
def PSs (X : Cx) (st : List Stmt) (t : TS) : Prop :=
  ∀ (pins : List (Addr × Obj)) (s : Shared) (σ : St) (H : Hp) (D : Ends), Inv X pins σ H s → t D σ H → wpAny (model X.prog X.w) X.A (execs st X.env) (SP X pins D) X.xe s
/-- weaken the end -/
theorem thn {α : Type} {t : Sem α} {Q Q' : α → Shared → Prop} {M : Model} {A : Around} {E : Value → Shared → Prop} {s : Shared} (h : wpAny M A t Q E s) (hQ : ∀ a s, Q a s → Q' a s) : wpAny M A t Q' E s := wpAny_mono h hQ fun _ _ x => x
end L2

namespace L2
open PySem PySem.Spec PyProof.Rows
section
variable {X : Cx}

/-! ### names and constants -/
def tVar (i : Nat) : TE := fun σ H Q => ∃ v, σ[i]? = some (some v) ∧ Q v H
def tC (v : V) : TE := fun _ H Q => Q v H
theorem pe_var {i : Nat} {x : Str} {pos : Pos} (hN : X.N[i]? = some x) (hv : Vis X.env.scope x) (hd : (x == ("__debug__" : Str)) = false := by decide) (hcd : (x == ("__classdict__" : Str)) = false := by decide) : PE X (.Name x pos) (tVar i) := by
  intro pins s σ H Q I h
  obtain ⟨v, e, h⟩ := h
  obtain ⟨m, hn, hl⟩ := I.loc
  obtain ⟨u, r, l⟩ := hl i x v hN e hv
  have fin : EP X pins σ Q u s := ⟨v, H, I, r, h⟩
  rcases l with ⟨hk, hm⟩ | ⟨hk, c, hc, hcell⟩
  · exact wpAny_Name (wpAny_loadName_local I.ok.kind hk hn hm fin) hd
  · rcases hk with hk | hk
    · exact wpAny_Name (wpAny_loadName_cell I.ok.kind hk hc hcell fin) hd
    · exact wpAny_Name (wpAny_loadName_free I.ok.kind hk hc hcell fin hcd) hd
theorem pe_int {i j pos} : PE X (.Constant (.int i) j pos) (tC (.int i)) := fun _ _ _ H _ I h => wpAny_Constant_int ⟨.int i, H, I.tok _, ⟨_, rfl⟩, h⟩
theorem pe_bl {b j pos} : PE X (.Constant (.bool b) j pos) (tC (.bl b)) := fun _ _ _ H _ I h => Constant_bool ⟨.bl b, H, I, rfl, h⟩
/-- a global name of the def -/
def Gl (X : Cx) (x : Str) : Prop := X.env.kindOf x = some .globalImplicit
theorem ld_glob {E : Value → Shared → Prop} {pins : List (Addr × Obj)} {s : Shared} {σ : St} {H : Hp} {x : Str} {u : Value} {pos : Pos} {Q : Value → Shared → Prop} (I : Inv X pins σ H s) (hg : Gl X x) (hm : X.mg x = some u) (h : Q u s)
    (hd : (x == ("__debug__" : Str)) = false := by decide) : wpAny (model X.prog X.w) X.A (eval (.Name x pos) X.env) Q E s :=
  Calls.Name_function_global I.ok.kind hg (Calls.loadGlobal_global (by rw [I.ok.glob]; exact I.mod.glob.keeps I.bk) hm h) hd
theorem ld_blt {E : Value → Shared → Prop} {pins : List (Addr × Obj)} {s : Shared} {σ : St} {H : Hp} {x : Str} {u : Value} {pos : Pos} {Q : Value → Shared → Prop} (I : Inv X pins σ H s) (hg : Gl X x) (hm : X.mg x = none) (hv : bootBuiltins x = some u) (h : Q u s)
    (hn : x ≠ "__name__" := by decide) (hd : (x == ("__debug__" : Str)) = false := by decide) : wpAny (model X.prog X.w) X.A (eval (.Name x pos) X.env) Q E s := by
  obtain ⟨mb, h1, h2⟩ := I.mod.blt
  exact Calls.Name_function_global I.ok.kind hg (Calls.loadGlobal_builtin (by rw [I.ok.glob]; exact I.mod.glob.keeps I.bk) hm (by rw [I.ok.blt]; exact h1.keeps I.bk) ((h2 x hn).trans hv) h) hd
/-- a module's constant, a class, a function, as a value -/
theorem pe_glob {x : Str} {v : V} {u : Value} {pos : Pos} (hg : Gl X x) (hm : X.mg x = some u) (r : RelV v u) (hd : (x == ("__debug__" : Str)) = false := by decide) : PE X (.Name x pos) (tC v) :=
  fun _ _ _ H _ I h => ld_glob I hg hm ⟨v, H, I, r, h⟩ hd
theorem pe_bltn {x : Str} {v : V} {u : Value} {pos : Pos} (hg : Gl X x) (hm : X.mg x = none) (hv : bootBuiltins x = some u) (r : RelV v u) (hn : x ≠ "__name__" := by decide) (hd : (x == ("__debug__" : Str)) = false := by decide) : PE X (.Name x pos) (tC v) :=
  fun _ _ _ H _ I h => ld_blt I hg hm hv ⟨v, H, I, r, h⟩ hn hd

variable {a b : Expr} {ta tb : TE} {pos : Pos}
/-- a comparison as a value, as a test -/
def tB (t : TE) : TT := fun σ H Q => t σ H fun x H1 => ∃ c, x = .bl c ∧ Q c H1
/-- an expression whose value is a bool, as a test -/
theorem pt_val {e : Expr} {t : TE} (h : PE X e t) (he : ∀ whole, isTrue e X.env whole = (do let v ← whole; standAt e.pos; holding [v] (truthy v)) := by intro _; rfl) : PT X e (tB t) := by
  intro pins s σ H Q I hw
  refine isTrue_plain (thn (h pins s σ H _ I hw) fun v s1 ⟨x, H1, I1, r1, q1⟩ => ?_) (he _)
  obtain ⟨d, rfl, q⟩ := q1
  cases r1
  exact wpAny_truthy_bool ⟨H1, I1, q⟩

variable {tA tB' : TT} {rest : List Expr}
def tAnd (t u : TT) : TT := fun σ H Q => t σ H fun c H1 => if c = true then u σ H1 Q else Q false H1
def tOr (t u : TT) : TT := fun σ H Q => t σ H fun c H1 => if c = true then Q true H1 else u σ H1 Q
def tNot (t : TT) : TT := fun σ H Q => t σ H fun c H1 => Q (!c) H1
theorem pw_and1 (ha : PT X a tA) : PW X (.BoolOp .And [a] pos) tA := by
  intro wh pins s σ H Q I h
  refine isTrue_and (thn (ha pins s σ H Q I h) fun c s1 e => ?_)
  cases c with
  | true => exact isTrue_and_nil e
  | false => exact e
theorem pw_or1 (ha : PT X a tA) : PW X (.BoolOp .Or [a] pos) tA := by
  intro wh pins s σ H Q I h
  refine isTrue_or (thn (ha pins s σ H Q I h) fun c s1 e => ?_)
  cases c with
  | false => exact isTrue_or_nil e
  | true => exact e
theorem pw_and (ha : PT X a tA) (hb : PW X (.BoolOp .And (b :: rest) pos) tB') : PW X (.BoolOp .And (a :: b :: rest) pos) (tAnd tA tB') := by
  intro wh pins s σ H Q I h
  refine isTrue_and (thn (ha pins s σ H _ I h) fun c s1 ⟨H1, I1, q1⟩ => ?_)
  cases c with
  | true => exact hb wh pins s1 σ H1 Q I1 q1
  | false => exact ⟨H1, I1, q1⟩
theorem pw_or (ha : PT X a tA) (hb : PW X (.BoolOp .Or (b :: rest) pos) tB') : PW X (.BoolOp .Or (a :: b :: rest) pos) (tOr tA tB') := by
  intro wh pins s σ H Q I h
  refine isTrue_or (thn (ha pins s σ H _ I h) fun c s1 ⟨H1, I1, q1⟩ => ?_)
  cases c with
  | true => exact ⟨H1, I1, q1⟩
  | false => exact hb wh pins s1 σ H1 Q I1 q1
theorem pt_not (ha : PT X a tA) : PT X (.UnaryOp .Not a pos) (tNot tA) := by
  intro pins s σ H Q I h
  exact isTrue_not (ha pins s σ H (fun c H1 => Q (!c) H1) I h)
/-- .. as values (bools) -/
def tAndV (ta tb : TE) : TE := fun σ H Q => ta σ H fun x H1 => ∃ c, x = .bl c ∧ if c = true then tb σ H1 Q else Q (.bl false) H1
def tOrV (ta tb : TE) : TE := fun σ H Q => ta σ H fun x H1 => ∃ c, x = .bl c ∧ if c = true then Q (.bl true) H1 else tb σ H1 Q
def tNotV (ta : TE) : TE := fun σ H Q => ta σ H fun x H1 => ∃ c, x = .bl c ∧ Q (.bl (!c)) H1
theorem pe_one {op} {t : TE} (h : PE X a t) : PE X (.BoolOp op [a] pos) t := fun pins s σ H Q I hw => BoolOp_one (h pins s σ H Q I hw)
theorem pe_and (ha : PE X a ta) (hb : PE X (.BoolOp .And (b :: rest) pos) tb) : PE X (.BoolOp .And (a :: b :: rest) pos) (tAndV ta tb) := by
  intro pins s σ H Q I h
  refine BoolOp_and (thn (ha pins s σ H _ I h) fun v s1 ⟨x, H1, I1, r1, q1⟩ => ?_)
  obtain ⟨c, rfl, q1⟩ := q1
  cases r1
  refine wpAny_truthy_bool ?_
  cases c with
  | true => exact hb pins s1 σ H1 Q I1 q1
  | false => exact ⟨.bl false, H1, I1, rfl, q1⟩
theorem pe_not (ha : PE X a ta) : PE X (.UnaryOp .Not a pos) (tNotV ta) := by
  intro pins s σ H Q I h
  refine UnaryOp_ (thn (ha pins s σ H _ I h) fun v s1 ⟨x, H1, I1, r1, q1⟩ => ?_)
  obtain ⟨c, rfl, q1⟩ := q1
  cases r1
  exact not_of (wpAny_truthy_bool ⟨.bl (!c), H1, I1, rfl, q1⟩)
/-- a if t else b -/
def tIf (t : TT) (ta tb : TE) : TE := fun σ H Q => t σ H fun c H1 => if c = true then ta σ H1 Q else tb σ H1 Q
end
end L2

namespace L2
open PySem PySem.Spec PyProof.Rows

/-! ### a list, a tuple that is read: tracked, frozen, or an object of the module -/
def SqL (K : PySem.W.Frag) (H : Hp) (a : Addr) (xs : List V) : Prop :=
  Rd H a (.lst xs) ∨
    ∃ (o : Obj) (its : Array Value) (n : Nat), K.lookup a = some o ∧ o.cls = .type "list" ∧ o.dict = none ∧ o.data = .seq its n ∧ its.size ≤ sizeLine ∧ Vals xs its.toList
def SqT (K : PySem.W.Frag) (H : Hp) (a : Addr) (xs : List V) : Prop :=
  Rd H a (.tup xs) ∨
    ∃ (o : Obj) (its : Array Value) (n : Nat), K.lookup a = some o ∧ o.cls = .type "tuple" ∧ o.data = .seq its n ∧ its.size ≤ sizeLine ∧ Vals xs its.toList
def absV : Value → Option V
  | .none => some .non
  | .bool b => some (.bl b)
  | .int i _ => some (.int i)
  | .str x _ => some (.str x)
  | .bytes b _ => some (.byt b)
  | .float b _ => some (.flt b)
  | .ref a => some (.ref a)
  | .type n => some (.ty n)
  | _ => none
theorem RelV.abs {x : V} {u : Value} (r : RelV x u) : absV u = some x := by
  cases x with
  | non => cases r; rfl
  | bl _ => cases r; rfl
  | int _ => obtain ⟨t, rfl⟩ := r; rfl
  | str _ => obtain ⟨t, rfl⟩ := r; rfl
  | byt _ => obtain ⟨t, rfl⟩ := r; rfl
  | flt _ => obtain ⟨t, rfl⟩ := r; rfl
  | ref _ => cases r; rfl
  | ty _ => cases r; rfl
theorem RelV.inj {x y : V} {u : Value} (r : RelV x u) (q : RelV y u) : x = y := Option.some.inj (r.abs.symm.trans q.abs)
theorem Vals.inj : ∀ {xs ys : List V} {us : List Value}, Vals xs us → Vals ys us → xs = ys
  | _, _, _, .nil, .nil => rfl
  | _, _, _, .cons r t, .cons r' t' => by rw [r.inj r', Vals.inj t t']
section
variable {X : Cx} {pins : List (Addr × Obj)} {σ : St} {H : Hp} {s : Shared} {a : Addr} {xs ys : List V}
theorem SqL.of {K : PySem.W.Frag} (h : H a = some (.lst xs)) : SqL K H a xs := .inl (.inl h)
theorem SqT.of {K : PySem.W.Frag} (h : H a = some (.tup xs)) : SqT K H a xs := .inl (.inl h)
theorem Inv.list (I : Inv X pins σ H s) (h : SqL X.K H a xs) : ∃ its : List Value, Vals xs its ∧ PlainL s.heap a its.toArray ∧ xs.length ≤ sizeLine := by
  rcases h with h | ⟨o, its, n, hk, hc, hd, hs, hz, r⟩
  · obtain ⟨z, its, n, r, e⟩ := h.ok I.hok
    exact ⟨its, r, ⟨_, n, e, rfl, rfl, rfl⟩, z⟩
  · refine ⟨its.toList, r, ⟨o, n, I.kIn a o hk, hc, hd, by simpa using hs⟩, ?_⟩
    have e := r.length
    simp only [Array.length_toList] at e
    omega
theorem Inv.tuple (I : Inv X pins σ H s) (h : SqT X.K H a xs) : ∃ its : List Value, Vals xs its ∧ IsTup s.heap a its.toArray ∧ xs.length ≤ sizeLine := by
  rcases h with h | ⟨o, its, n, hk, hc, hs, hz, r⟩
  · obtain ⟨z, its, r, p⟩ := h.ok I.hok
    exact ⟨its, r, p, z⟩
  · refine ⟨its.toList, r, ⟨o, I.kIn a o hk, hc, n, by simpa using hs⟩, ?_⟩
    have e := r.length
    simp only [Array.length_toList] at e
    omega
theorem Inv.list_inj (I : Inv X pins σ H s) (h : SqL X.K H a xs) (h' : SqL X.K H a ys) : xs = ys := by
  obtain ⟨its, r, ⟨o, n, e, _, _, d⟩, _⟩ := I.list h
  obtain ⟨its', r', ⟨o', n', e', _, _, d'⟩, _⟩ := I.list h'
  rw [e] at e'; cases e'
  rw [d] at d'
  injection d' with d1 _
  have : its = its' := by simpa using congrArg Array.toList d1
  subst this
  exact r.inj r'
theorem Inv.tuple_inj (I : Inv X pins σ H s) (h : SqT X.K H a xs) (h' : SqT X.K H a ys) : xs = ys := by
  obtain ⟨its, r, ⟨o, e, _, n, d⟩, _⟩ := I.tuple h
  obtain ⟨its', r', ⟨o', e', _, n', d'⟩, _⟩ := I.tuple h'
  rw [e] at e'; cases e'
  rw [d] at d'
  injection d' with d1 _
  have : its = its' := by simpa using congrArg Array.toList d1
  subst this
  exact r.inj r'
end

/-! ### another wish about exceptions -/
abbrev Cx.wish (X : Cx) (E : Value → Shared → Prop) : Cx := { X with xe := E }
/-- no exception leaves -/
abbrev Cx.nox (X : Cx) : Cx := X.wish fun _ _ => False
theorem Cx.Ok.wish {X : Cx} (ok : X.Ok) (E : Value → Shared → Prop) : (X.wish E).Ok :=
  ⟨ok.mod, ok.kind, ok.glob, ok.blt, ok.above, ok.inj, ok.has, ok.cab, ok.hd, ok.frames, ok.stk, ok.exf, ok.bs, ok.bsz, ok.noex, ok.exfs, ok.funs, ok.frf⟩
theorem Cx.Ok.unwish {X : Cx} {E : Value → Shared → Prop} (ok : (X.wish E).Ok) : X.Ok :=
  ⟨ok.mod, ok.kind, ok.glob, ok.blt, ok.above, ok.inj, ok.has, ok.cab, ok.hd, ok.frames, ok.stk, ok.exf, ok.bs, ok.bsz, ok.noex, ok.exfs, ok.funs, ok.frf⟩
section
variable {X : Cx} {pins : List (Addr × Obj)} {σ : St} {H : Hp} {s : Shared} {E : Value → Shared → Prop}
theorem Inv.wish (I : Inv X pins σ H s) (E : Value → Shared → Prop) : Inv (X.wish E) pins σ H s := ⟨I.ok.wish E, I.os, I.bare, I.base, I.loc, I.cell, I.free, I.freeC, I.pin, I.hok, I.len⟩
theorem Inv.unwish (I : Inv (X.wish E) pins σ H s) : Inv X pins σ H s := ⟨I.ok.unwish, I.os, I.bare, I.base, I.loc, I.cell, I.free, I.freeC, I.pin, I.hok, I.len⟩
theorem SP.unwish {D : Ends} {f : Flow} {s' : Shared} (h : SP (X.wish E) pins D f s') : SP X pins D f s' := by
  cases f with
  | next => obtain ⟨σ', H', I, q⟩ := h; exact ⟨σ', H', I.unwish, q⟩
  | brk => obtain ⟨σ', H', I, q⟩ := h; exact ⟨σ', H', I.unwish, q⟩
  | cont => obtain ⟨σ', H', I, q⟩ := h; exact ⟨σ', H', I.unwish, q⟩
  | ret u => obtain ⟨v, σ', H', I, r, q⟩ := h; exact ⟨v, σ', H', I.unwish, r, q⟩
theorem PE.nox {e : Expr} {t : TE} (h : PE X.nox e t) : PE X e t := fun pins s σ H Q I hw =>
  wpAny_mono (h pins s σ H Q (I.wish _) hw) (fun _ _ ⟨v, H', I', r, q⟩ => ⟨v, H', I'.unwish, r, q⟩) fun _ _ z => False.elim z
theorem PT.nox {e : Expr} {t : TT} (h : PT X.nox e t) : PT X e t := fun pins s σ H Q I hw =>
  wpAny_mono (h pins s σ H Q (I.wish _) hw) (fun _ _ ⟨H', I', q⟩ => ⟨H', I'.unwish, q⟩) fun _ _ z => False.elim z
theorem PSs.nox {st : List Stmt} {t : TS} (h : PSs X.nox st t) : PSs X st t := fun pins s σ H D I hw =>
  wpAny_mono (h pins s σ H D (I.wish _) hw) (fun _ _ q => q.unwish) fun _ _ z => False.elim z
end

section
variable {X : Cx} {st : Stmt} {rest : List Stmt} {t u : TS} {e : Expr} {te : TE} {pos : Pos}
def tNext : TS := fun D σ H => D.nx σ H
def tSeq (t u : TS) : TS := fun D σ H => t { D with nx := u D } σ H
theorem pss_nil : PSs X [] tNext := fun _ _ σ H _ I h => wpAny_execs_nil ⟨σ, H, I, h⟩
theorem pss_cons (h1 : PS X st t) (h2 : PSs X rest u) : PSs X (st :: rest) (tSeq t u) := by
  intro pins s σ H D I h
  refine wpAny_execs_cons (thn (h1 pins s σ H { D with nx := u D } I h) fun f s1 q => ?_)
  cases f with
  | next =>
    obtain ⟨σ', H', I', q⟩ := q
    exact h2 pins s1 σ' H' D I' q
  | ret v => exact q
  | brk => exact q
  | cont => exact q
theorem pss_one (h1 : PS X st t) : PSs X [st] t := by
  intro pins s σ H D I h
  refine wpAny_execs_cons (thn (h1 pins s σ H D I h) fun f s1 q => ?_)
  cases f with
  | next => exact wpAny_execs_nil q
  | ret v => exact q
  | brk => exact q
  | cont => exact q
/-- in a def's body nothing is shown -/
theorem Inv.quiet {pins : List (Addr × Obj)} {σ : St} {H : Hp} {s : Shared} (I : Inv X pins σ H s) : interactive X.env = false := by simp [interactive, I.ok.kind]
/-- an expression whose value is dropped -/
def tDrop (te : TE) : TS := fun D σ H => te σ H fun _ H1 => D.nx σ H1
theorem ps_expr (he : PE X e te) (hs : swapsWith e none pos.line X.env = pure false := by rfl) : PS X (.Expr e pos) (tDrop te) := by
  intro pins s σ H D I h
  exact wpAny_Expr_any (thn (he pins s σ H _ I h) fun v s1 ⟨x, H1, I1, r1, q1⟩ => ⟨σ, H1, I1, q1⟩) I.quiet hs
def tRet (te : TE) : TS := fun D σ H => te σ H D.rt
theorem ps_ret (he : PE X e te) : PS X (.Return (some e) pos) (tRet te) := by
  intro pins s σ H D I h
  exact wpAny_Return_some (thn (he pins s σ H _ I h) fun v s1 ⟨x, H1, I1, r1, q1⟩ => ⟨x, σ, H1, I1, r1, q1⟩)
def tRetN : TS := fun D _ H => D.rt .non H
def tIfS (c : TT) (t u : TS) : TS := fun D σ H => c σ H fun b H1 => if b = true then t D σ H1 else u D σ H1
theorem ps_if {c : Expr} {a b : List Stmt} {tc : TT} (hc : PT X c tc) (ha : PSs X a t) (hb : PSs X b u) : PS X (.If c a b pos) (tIfS tc t u) := by
  intro pins s σ H D I h
  refine wpAny_If (thn (hc pins s σ H _ I h) fun d s1 ⟨H1, I1, q1⟩ => ?_)
  cases d with
  | true => exact ha pins s1 σ H1 D I1 q1
  | false => exact hb pins s1 σ H1 D I1 q1
end

/-! ### targets -/
abbrev TG := V → St → Hp → (St → Hp → Prop) → Prop
abbrev TGs := List V → St → Hp → (St → Hp → Prop) → Prop
def PG (X : Cx) (target : Expr) (t : TG) : Prop :=
  ∀ (pins : List (Addr × Obj)) (s : Shared) (σ : St) (H : Hp) (v : V) (u : Value) (Q : St → Hp → Prop), Inv X pins σ H s → RelV v u → t v σ H Q →
    wpAny (model X.prog X.w) X.A (assign target X.env u) (fun _ s' => ∃ σ' H', Inv X pins σ' H' s' ∧ Q σ' H') X.xe s
/-- o[i] = v, by values -/
abbrev TSet := V → V → V → Hp → (Hp → Prop) → Prop
section
variable {X : Cx} {pos : Pos}
def gName (i : Nat) : TG := fun v σ H Q => Q (σ.set i (some v)) H
theorem pg_name {i : Nat} {x : Str} (hN : X.N.Nodup) (hi : X.N[i]? = some x) (hx : Loc X.env.scope x) (hf : X.fn x = true ∨ X.env.scope.names.lookup x = some .local := by first | exact .inl rfl | exact .inr rfl | assumption) : PG X (.Name x pos) (gName i) := by
  intro pins s σ H v u Q I r h
  exact wpAny_assign_Name (store_ok I hN hi hx r (fun s' I' => ⟨_, H, I', h⟩) hf)
def gNil : TGs := fun vs σ H Q => vs = [] ∧ Q σ H
def gCons (t : TG) (u : TGs) : TGs := fun vs σ H Q => ∃ v r, vs = v :: r ∧ t v σ H fun σ' H' => u r σ' H' Q
/-- (a, b, ..) = a tuple of that length -/
def gTup (K : PySem.W.Frag) (n : Nat) (t : TGs) : TG := fun v σ H Q => ∃ a xs, v = .ref a ∧ SqT K H a xs ∧ xs.length = n ∧ t xs σ H Q
/-- o[i] = .. -/
def gSub (to ti : TE) (t : TSet) : TG := fun v σ H Q => to σ H fun o H1 => ti σ H1 fun i H2 => t o i v H2 fun H3 => Q σ H3
/-- target = value -/
def tAsg (te : TE) (g : TG) : TS := fun D σ H => te σ H fun x H1 => g x σ H1 D.nx
/-- name = value -/
theorem ps_set {i : Nat} {x : Str} {e : Expr} {te : TE} {pos' : Pos} (hN : X.N.Nodup) (hi : X.N[i]? = some x) (hx : Loc X.env.scope x) (he : PE X e te) (hs : swapsWith e (some (.Name x pos')) pos.line X.env = pure false := by rfl) (hf : X.fn x = true ∨ X.env.scope.names.lookup x = some .local := by first | exact .inl rfl | exact .inr rfl | assumption) :
    PS X (.Assign [.Name x pos'] e pos) (tAsg te (gName i)) := by
  intro pins s σ H D I h
  refine wpAny_Assign_Name (thn (he pins s σ H _ I h) fun v s1 ⟨y, H1, I1, r1, q1⟩ => ?_) hs
  exact store_ok I1 hN hi hx r1 (fun s2 I2 => ⟨_, H1, I2, q1⟩) hf
end

section
variable {X : Cx} {pos : Pos}
end

/-- at turn i: it yields x (the heap may grow), or it stops -/
structure It where
  go : Nat → Hp → Prop
  yld : Nat → Hp → V → Hp → Prop
  stop : Nat → Hp → Prop
/-- the iterator's own objects may turn: they are not the frame's, not pinned, younger than the entry (or a comprehension's own) -/
def FpOk (X : Cx) (pins : List (Addr × Obj)) (H : Hp) (b : Addr) : Prop :=
  H b = none ∧ b ≠ X.env.locals ∧ b ∉ X.fs ∧ (b ∈ X.ex ∨ X.s₀.heap.objs.size ≤ b) ∧ (∀ x c, X.env.cells.lookup x = some c → c ≠ b) ∧ ∀ p ∈ X.pn ++ pins, p.1 ≠ b
theorem Inv.fpOk {X : Cx} {pins : List (Addr × Obj)} {σ : St} {H H' : Hp} {s : Shared} {b : Addr} (I : Inv X pins σ H s) (hb : s.heap.objs.size ≤ b) (hn : H' b = none) : FpOk X pins H' b := by
  refine ⟨hn, Nat.ne_of_gt (Nat.lt_of_lt_of_le I.lt hb), I.nofs hb, .inr (Nat.le_trans I.sz hb), fun x c e z => ?_, fun p hp z => ?_⟩
  · obtain ⟨v, q⟩ := I.cell x c e
    exact absurd (Nat.lt_of_lt_of_le q.lt (by rw [z]; exact hb)) (Nat.lt_irrefl _)
  · exact absurd (Nat.lt_of_lt_of_le (Heap.lt_size (I.pin p hp).1) (by rw [z]; exact hb)) (Nat.lt_irrefl _)
structure Turn (P : Program) (w : World) (K : PySem.W.Frag) (tg : Expr) (J : It) (fp : List Addr) (it : Addr) (tn : Nat → Heap → Prop) : Prop where
  mem : it ∈ fp
  obj : ∀ i h, tn i h → ∀ b ∈ fp, ∃ o, h.get? b = some o ∧ ∀ v, o.data ≠ .cell v
  keep : ∀ i h h', tn i h → (∀ b ∈ fp, ∀ o, h.get? b = some o → h'.get? b = some o) → tn i h'
  item : ∀ (X : Cx), X.prog = P → X.w = w → X.K = K → X.calm = true → ∀ (i : Nat) (pins : List (Addr × Obj)) (s : Shared) (σ : St) (H : Hp) (E : Value → Shared → Prop), Inv X pins σ H s → (∀ b ∈ fp, FpOk X pins H b) → tn i s.heap → J.go i H →
    wpAny (model P w) X.A (pyNext (.ref it)) (fun r s1 => ∃ u, r = some u ∧
      wpAny (model P w) X.A (letOwnedTupleGo tg (.ref it) u) (fun _ s2 => ∃ x H', Inv X pins σ H' s2 ∧ RelV x u ∧ J.yld i H x H' ∧ tn (i + 1) s2.heap ∧ ∀ b ∈ fp, H' b = none) E s1) E s
  done : ∀ (X : Cx), X.prog = P → X.w = w → X.K = K → X.calm = true → ∀ (i : Nat) (pins : List (Addr × Obj)) (s : Shared) (σ : St) (H : Hp) (E : Value → Shared → Prop), Inv X pins σ H s → (∀ b ∈ fp, FpOk X pins H b) → tn i s.heap → J.stop i H →
    wpAny (model P w) X.A (pyNext (.ref it)) (fun r s1 => r = none ∧ Inv X pins σ H s1) E s
  self : ∀ (A : Around) (i : Nat) (s : Shared) (Q : Value → Shared → Prop) (E : Value → Shared → Prop), tn i s.heap → Q (.ref it) s → wpAny (model P w) A (pyIter (.ref it)) Q E s
abbrev TI := St → Hp → (It → Hp → Prop) → Prop
/-- an iterator has come -/
def PIE (X : Cx) (pins : List (Addr × Obj)) (σ : St) (tg : Expr) (R : It → Hp → Prop) (itv : Value) (s2 : Shared) : Prop :=
  ∃ (it : Addr) (fp : List Addr) (tn : Nat → Heap → Prop) (J : It) (H' : Hp), itv = .ref it ∧ Inv X pins σ H' s2 ∧ Turn X.prog X.w X.K tg J fp it tn ∧ tn 0 s2.heap ∧ (∀ b ∈ fp, FpOk X pins H' b) ∧ R J H'
def PI (X : Cx) (tg iter : Expr) (wi : TI) : Prop :=
  ∀ (pins : List (Addr × Obj)) (s : Shared) (σ : St) (H : Hp) (R : It → Hp → Prop), Inv X pins σ H s → wi σ H R →
    wpAny (model X.prog X.w) X.A (eval iter X.env) (fun v s1 => wpAny (model X.prog X.w) X.A (pyIter v) (PIE X pins σ tg R) X.xe s1) X.xe s

/-- the step ahead of the store is nothing for an iterator that keeps no tuple -/
theorem go_of {M : Model} {A : Around} {E : Value → Shared → Prop} {s : Shared} {tg : Expr} {it : Addr} {u : Value} {o : Obj} {n : String} {vs : Array Value} {Q : Unit → Shared → Prop} (ho : s.heap.get? it = some o) (hc : o.cls = .type n) (hd : o.data = .fields vs)
    (hn : ["enumerate", "zip", "dict_itemiterator", "dict_reverseitemiterator", "odict_iterator", "itertools.zip_longest", "itertools.pairwise"].contains n = false) (hQ : Q () s) : wpAny M A (letOwnedTupleGo tg (.ref it) u) Q E s := by
  unfold letOwnedTupleGo
  cases tg <;> first
    | exact wpAny_pure hQ
    | (cases u <;> first
        | exact wpAny_pure hQ
        | (refine wpAny_bind (wpAny_load ho ?_)
           rw [hc, hd]
           show wpAny M A (if (["enumerate", "zip", "dict_itemiterator", "dict_reverseitemiterator", "odict_iterator", "itertools.zip_longest", "itertools.pairwise"].contains n && vs[0]? == some (rawInt _)) = true then _ else _) Q E s
           rw [if_neg (by intro h; rw [hn, Bool.false_and] at h; cases h)]
           exact wpAny_pure hQ))

/-- the list at a, as it stands at each turn (a loop may append to it) -/
def Itl (K : PySem.W.Frag) (a : Addr) : It :=
  ⟨fun i H => ∃ xs x, SqL K H a xs ∧ xs[i]? = some x, fun i H x H' => H' = H ∧ ∀ xs, SqL K H a xs → xs[i]? = some x, fun i H => ∃ xs, SqL K H a xs ∧ xs.length ≤ i⟩
def Itt (K : PySem.W.Frag) (a : Addr) : It :=
  ⟨fun i H => ∃ xs x, SqT K H a xs ∧ xs[i]? = some x, fun i H x H' => H' = H ∧ ∀ xs, SqT K H a xs → xs[i]? = some x, fun i H => ∃ xs, SqT K H a xs ∧ xs.length ≤ i⟩
/-- lo, lo + 1, .. (n of them) -/
def Itr (lo : Int) (n : Nat) : It := ⟨fun i _ => i < n, fun i H x H' => H' = H ∧ x = .int (lo + i), fun i _ => n ≤ i⟩
theorem turn_list {P : Program} {w : World} {K : PySem.W.Frag} {tg : Expr} (a it : Addr) : Turn P w K tg (Itl K a) [it] it (fun i h => h.IsListIter it a i) where
  mem := by simp
  obj := fun i h st b hb => by
    have e : b = it := by simpa using hb
    subst e
    obtain ⟨o, e, c, d⟩ := st
    exact ⟨o, e, fun v z => by rw [d] at z; cases z⟩
  keep := fun i h h' st k => st.at fun o e => k it (by simp) o e
  item := by
    intro X hP hw hK hc i pins s σ H E I hf st hg
    subst hP hw hK
    obtain ⟨xs, x, hq, hx⟩ := hg
    obtain ⟨its, rv, p, hz⟩ := I.list hq
    obtain ⟨u, hu, ru⟩ := rv.get hx
    obtain ⟨f0, f1, f2, f3, f4, f5⟩ := hf it (by simp)
    refine wpAny_pyNext_list_item st p.isList (x := u) (by simpa using hu) fun h' st' sb => ?_
    have I1 : Inv X pins σ H { s with heap := h' } := I.turned (t' := s.toks) (fun b o hb e => (sb.2 b hb).trans e) f0 f1 f3 f4 f5
    obtain ⟨o, e, c, d⟩ := id st'
    exact ⟨u, rfl, go_of (s := { s with heap := h' }) e c d (by decide) ⟨x, H, I1, ru, ⟨rfl, fun ys hy => by rw [I.list_inj hy hq]; exact hx⟩, st', fun b hb => (hf b hb).1⟩⟩
  done := by
    intro X hP hw hK hc i pins s σ H E I hf st hg
    subst hP hw hK
    obtain ⟨xs, hq, hx⟩ := hg
    obtain ⟨its, rv, p, hz⟩ := I.list hq
    obtain ⟨f0, f1, f2, f3, f4, f5⟩ := hf it (by simp)
    have hl := rv.length
    exact wpAny_pyNext_list_end (I.ok.hd hc) st p.isList (by simp; omega) fun h' eb => ⟨rfl, I.turned (t' := s.toks) (fun b o hb e => eb b o hb e) f0 f1 f3 f4 f5⟩
  self := fun _ _ _ _ _ st h => wpAny_pyIter_listiter st h
theorem turn_tuple {P : Program} {w : World} {K : PySem.W.Frag} {tg : Expr} (a it : Addr) : Turn P w K tg (Itt K a) [it] it (fun i h => h.IsTupleIter it a i) where
  mem := by simp
  obj := fun i h st b hb => by
    have e : b = it := by simpa using hb
    subst e
    obtain ⟨o, e, c, d⟩ := st
    exact ⟨o, e, fun v z => by rw [d] at z; cases z⟩
  keep := fun i h h' st k => st.at fun o e => k it (by simp) o e
  item := by
    intro X hP hw hK hc i pins s σ H E I hf st hg
    subst hP hw hK
    obtain ⟨xs, x, hq, hx⟩ := hg
    obtain ⟨its, rv, p, hz⟩ := I.tuple hq
    obtain ⟨u, hu, ru⟩ := rv.get hx
    obtain ⟨f0, f1, f2, f3, f4, f5⟩ := hf it (by simp)
    refine wpAny_pyNext_tuple_item st (show s.heap.IsTuple a its.toArray from p) (x := u) (by simpa using hu) fun h' st' sb => ?_
    have I1 : Inv X pins σ H { s with heap := h' } := I.turned (t' := s.toks) (fun b o hb e => (sb.2 b hb).trans e) f0 f1 f3 f4 f5
    obtain ⟨o, e, c, d⟩ := id st'
    exact ⟨u, rfl, go_of (s := { s with heap := h' }) e c d (by decide) ⟨x, H, I1, ru, ⟨rfl, fun ys hy => by rw [I.tuple_inj hy hq]; exact hx⟩, st', fun b hb => (hf b hb).1⟩⟩
  done := by
    intro X hP hw hK hc i pins s σ H E I hf st hg
    subst hP hw hK
    obtain ⟨xs, hq, hx⟩ := hg
    obtain ⟨its, rv, p, hz⟩ := I.tuple hq
    obtain ⟨f0, f1, f2, f3, f4, f5⟩ := hf it (by simp)
    have hl := rv.length
    exact wpAny_pyNext_tuple_end (I.ok.hd hc) st (show s.heap.IsTuple a its.toArray from p) (by simp; omega) fun h' eb => ⟨rfl, I.turned (t' := s.toks) (fun b o hb e => eb b o hb e) f0 f1 f3 f4 f5⟩
  self := fun _ _ _ _ _ st h => wpAny_pyIter_tupleiter st h
theorem turn_range {P : Program} {w : World} {K : PySem.W.Frag} {tg : Expr} (it : Addr) (lo : Int) (n : Nat) : Turn P w K tg (Itr lo n) [it] it (fun i h => IsRangeIter h it (lo + (i : Nat) * 1) ((n : Int) - (i : Nat)) 1) where
  mem := by simp
  obj := fun i h st b hb => by
    have e : b = it := by simpa using hb
    subst e
    exact ⟨_, st, fun v z => by
      have z' : Data.fields _ = Data.cell v := z
      cases z'⟩
  keep := fun i h h' st k => k it (by simp) _ st
  item := by
    intro X hP hw hK hc i pins s σ H E I hf st hg
    subst hP hw hK
    obtain ⟨f0, f1, f2, f3, f4, f5⟩ := hf it (by simp)
    have W := Walks.range (prog := X.prog) (w := X.w) (I.ok.hd hc) it lo 1 n
    refine W.item i s _ _ hg st fun v h' tk hv st' kk => ?_
    obtain ⟨t, rfl⟩ := hv
    have I1 : Inv X pins σ H { s with heap := h', toks := tk } := I.turned (fun b o hb e => kk b o (by simpa using hb) e) f0 f1 f3 f4 f5
    refine ⟨_, rfl, go_of (s := { s with heap := h', toks := tk }) (n := "range_iterator") st' rfl rfl (by decide) ⟨.int (lo + i), H, I1, ⟨t, ?_⟩, ⟨rfl, rfl⟩, st', fun b hb => (hf b hb).1⟩⟩
    rw [Int.mul_one]
  done := by
    intro X hP hw hK hc i pins s σ H E I hf st hg
    subst hP hw hK
    obtain ⟨f0, f1, f2, f3, f4, f5⟩ := hf it (by simp)
    exact wpAny_pyNext_range_end (I.ok.hd hc) st (by have : n ≤ i := hg; omega) fun h' eb => ⟨rfl, I.turned (t' := s.toks) (fun b o hb e => eb b o hb e) f0 f1 f3 f4 f5⟩
  self := fun _ _ _ _ _ st h => wpAny_pyIter_rangeiter st h
end L2

namespace L2
open PySem PySem.Spec PyProof.Rows
section
variable {X : Cx} {tg : Expr}
def iList (K : PySem.W.Frag) (tl : TE) : TI := fun σ H R => tl σ H fun x H1 => ∃ a, x = .ref a ∧ (∃ xs, SqL K H1 a xs) ∧ R (Itl K a) H1
def iTup (K : PySem.W.Frag) (tl : TE) : TI := fun σ H R => tl σ H fun x H1 => ∃ a, x = .ref a ∧ (∃ xs, SqT K H1 a xs) ∧ R (Itt K a) H1
theorem pi_list {l : Expr} {tl : TE} (hl : PE X l tl) : PI X tg l (iList X.K tl) := by
  intro pins s σ H R I h
  refine thn (hl pins s σ H _ I h) fun v s1 ⟨x, H1, I1, r1, q1⟩ => ?_
  obtain ⟨a, e, ⟨xs, hq⟩, q⟩ := q1
  subst e
  cases r1
  obtain ⟨its, rv, p, hz⟩ := I1.list hq
  refine wpAny_pyIter_list p.isList ?_
  refine ⟨s1.heap.objs.size, [s1.heap.objs.size], _, _, H1, rfl, I1.kept (t' := s1.toks) fun b o e => Heap.get?_push_of_some _ e, turn_list a _, ⟨_, Heap.get?_push_size _ rfl, rfl, rfl⟩, fun b hb => ?_, q⟩
  have e : b = s1.heap.objs.size := by simpa using hb
  subst e
  exact I1.fpOk (Nat.le_refl _) (I1.hok.fresh (Nat.le_refl _))
theorem pi_tup {l : Expr} {tl : TE} (hl : PE X l tl) : PI X tg l (iTup X.K tl) := by
  intro pins s σ H R I h
  refine thn (hl pins s σ H _ I h) fun v s1 ⟨x, H1, I1, r1, q1⟩ => ?_
  obtain ⟨a, e, ⟨xs, hq⟩, q⟩ := q1
  subst e
  cases r1
  obtain ⟨its, rv, p, hz⟩ := I1.tuple hq
  refine wpAny_pyIter_tuple (show s1.heap.IsTuple a its.toArray from p) ?_
  refine ⟨s1.heap.objs.size, [s1.heap.objs.size], _, _, H1, rfl, I1.kept (t' := s1.toks) fun b o e => Heap.get?_push_of_some _ e, turn_tuple a _, ⟨_, Heap.get?_push_size _ rfl, rfl, rfl⟩, fun b hb => ?_, q⟩
  have e : b = s1.heap.objs.size := by simpa using hb
  subst e
  exact I1.fpOk (Nat.le_refl _) (I1.hok.fresh (Nat.le_refl _))
/-- a range object just made, walked -/
theorem range_it {pins : List (Addr × Obj)} {σ : St} {H : Hp} {s : Shared} {R : It → Hp → Prop} {E : Value → Shared → Prop} {lo hi : Int} {t u v : Tok} {tk : Nat} (I : Inv X pins σ H s) (h1 : -(2 ^ 62) ≤ lo) (h2 : lo < 2 ^ 62) (h3 : -(2 ^ 62) ≤ hi) (h4 : hi < 2 ^ 62)
    (q : R (Itr lo (hi - lo).toNat) H) : wpAny (model X.prog X.w) X.A (pyIter (.ref s.heap.objs.size)) (PIE X pins σ tg R) E { s with heap := s.heap.push { cls := .type "range", data := .fields #[.int lo t, .int hi u, .int 1 v] }, toks := tk } := by
  refine wpAny_pyIter_range (IsRange.new ..) (small_one h1 h2 h3 h4) ?_
  have I1 : Inv X pins σ H { s with heap := s.heap.push { cls := .type "range", data := .fields #[.int lo t, .int hi u, .int 1 v] }, toks := tk } := I.kept fun b o e => Heap.get?_push_of_some _ e
  refine ⟨(s.heap.push { cls := .type "range", data := .fields #[.int lo t, .int hi u, .int 1 v] }).objs.size, [(s.heap.push { cls := .type "range", data := .fields #[.int lo t, .int hi u, .int 1 v] }).objs.size], _, _, H, rfl,
    I1.kept (t' := tk) fun b o e => Heap.get?_push_of_some _ e, turn_range _ lo (hi - lo).toNat, ?_, fun b hb => ?_, q⟩
  · have e1 : lo + ((0 : Nat) : Int) * 1 = lo := by simp
    have e2 : (((hi - lo).toNat : Nat) : Int) - ((0 : Nat) : Int) = Builtin.Range.rangeSize lo hi 1 := by rw [rangeSize_one]; split <;> omega
    show IsRangeIter _ _ (lo + ((0 : Nat) : Int) * 1) ((((hi - lo).toNat : Nat) : Int) - ((0 : Nat) : Int)) 1
    rw [e1, e2]
    exact Heap.get?_push_size _ rfl
  · have e : b = (s.heap.push { cls := .type "range", data := .fields #[.int lo t, .int hi u, .int 1 v] }).objs.size := by simpa using hb
    subst e
    exact I1.fpOk (Nat.le_refl _) (I1.hok.fresh (Nat.le_refl _))
def iRng1 (ta : TA) : TI := fun σ H R => ta σ H fun vs H1 => ∃ j : Int, vs = [.int j] ∧ -(2 ^ 62) ≤ j ∧ j < 2 ^ 62 ∧ R (Itr 0 j.toNat) H1
def iRng2 (ta : TA) : TI := fun σ H R => ta σ H fun vs H1 => ∃ i j : Int, vs = [.int i, .int j] ∧ (-(2 ^ 62) ≤ i ∧ i < 2 ^ 62 ∧ -(2 ^ 62) ≤ j ∧ j < 2 ^ 62) ∧ R (Itr i (j - i).toNat) H1
theorem pi_range1 {a : Expr} {ta : TA} {p pos : Pos} (hg : Gl X "range") (hm : X.mg "range" = none) (ha : PA X [a] ta) (hs : starEach [a] X.env = [(false, eval a X.env)] := by rfl) : PI X tg (.Call (.Name "range" p) [a] [] pos) (iRng1 ta) := by
  intro pins s σ H R I h
  refine Call_ (ld_blt I hg hm boot_range (PyProof.Rows.callWith_type1 (thn (ha pos pins s σ H _ I h) fun us s1 ⟨vs, H1, I1, r1, q1⟩ => ?_) hs rfl))
  obtain ⟨j, e, q1, q2, q⟩ := q1
  subst e
  cases r1 with
  | cons r rr =>
    cases rr
    obtain ⟨t, rfl⟩ := r
    exact call_range_1 (range_it I1 (by omega) (by omega) q1 q2 (by simpa using q))
theorem pi_range2 {a b : Expr} {ta : TA} {p pos : Pos} (hg : Gl X "range") (hm : X.mg "range" = none) (ha : PA X [a, b] ta) (hs : starEach [a, b] X.env = [(false, eval a X.env), (false, eval b X.env)] := by rfl) (hs2 : starEach [b] X.env = [(false, eval b X.env)] := by rfl) :
    PI X tg (.Call (.Name "range" p) [a, b] [] pos) (iRng2 ta) := by
  intro pins s σ H R I h
  refine Call_ (ld_blt I hg hm boot_range (PyProof.Rows.callWith_type1 (thn (ha pos pins s σ H _ I h) fun us s1 ⟨vs, H1, I1, r1, q1⟩ => ?_) (by rw [hs, hs2]) (by rw [hs2]; rfl)))
  obtain ⟨i, j, e, ⟨q1, q2, q3, q4⟩, q⟩ := q1
  subst e
  cases r1 with
  | cons r rr =>
    cases rr with
    | cons r' rr =>
      cases rr
      obtain ⟨t, rfl⟩ := r
      obtain ⟨t', rfl⟩ := r'
      exact call_range_2 (range_it I1 q1 q2 q3 q4 q)

/-- W: the invariant by the turn and a measure; N: what the body is to reach -/
def tFor (wi : TI) (g : TG) (tb : TS) : TS := fun D σ H => wi σ H fun J H1 => ∃ W : Nat → Nat → St → Hp → Prop, (∃ m, W 0 m σ H1) ∧ ∀ i m σ H, W i m σ H →
  (J.stop i H ∧ D.nx σ H) ∨ (J.go i H ∧ ∃ N : St → Hp → Prop, (∀ σ' H', N σ' H' → ∃ m', m' < m ∧ W (i + 1) m' σ' H') ∧ ∀ x H', J.yld i H x H' → g x σ H' fun σ2 H2 => tb { D with nx := N, ct := N, bk := D.nx } σ2 H2)
/-- the records at fp as they stand -/
def pinsAt (fp : List Addr) (h : Heap) : List (Addr × Obj) := fp.filterMap fun b => (h.get? b).map fun o => (b, o)
theorem mem_pinsAt {fp : List Addr} {h : Heap} {b : Addr} {o : Obj} (hb : b ∈ fp) (e : h.get? b = some o) : (b, o) ∈ pinsAt fp h := List.mem_filterMap.mpr ⟨b, hb, by rw [e]; rfl⟩
theorem of_pinsAt {fp : List Addr} {h : Heap} {p : Addr × Obj} (hp : p ∈ pinsAt fp h) : p.1 ∈ fp ∧ h.get? p.1 = some p.2 := by
  obtain ⟨b, hb, e⟩ := List.mem_filterMap.mp hp
  cases q : h.get? b with
  | none => rw [q] at e; cases e
  | some o =>
    rw [q] at e
    have e' : (b, o) = p := Option.some.inj e
    subst e'
    exact ⟨hb, q⟩
theorem Inv.pinned {pins : List (Addr × Obj)} {σ : St} {H : Hp} {s : Shared} {fp : List Addr} (I : Inv X pins σ H s) (hf : ∀ b ∈ fp, FpOk X pins H b) (ho : ∀ b ∈ fp, ∃ o, s.heap.get? b = some o ∧ ∀ v, o.data ≠ .cell v) : Inv X (pins ++ pinsAt fp s.heap) σ H s :=
  I.pins_of fun p hp => (List.mem_append.mp hp).elim (fun z => I.pin p (List.mem_append_right _ z)) fun z => by
    obtain ⟨hb, e⟩ := of_pinsAt z
    obtain ⟨f0, f1, f2, _⟩ := hf p.1 hb
    obtain ⟨o, e', d⟩ := ho p.1 hb
    rw [e] at e'; cases e'
    exact ⟨e, f0, f1, f2, d⟩
theorem Inv.unpinned {pins pl : List (Addr × Obj)} {σ : St} {H : Hp} {s : Shared} (I : Inv X (pins ++ pl) σ H s) : Inv X pins σ H s := I.pins_of fun p hp => I.pin p (List.mem_append_right _ (List.mem_append_left _ hp))
theorem ps_for {iter : Expr} {body : List Stmt} {wi : TI} {g : TG} {tb : TS} {pos : Pos} (hp : PassesOwn (model X.prog X.w) X.A X.env X.xe) (hc : X.calm = true) (hi : PI X tg iter wi) (hg : PG X tg g) (hb : PSs X body tb)
    (hs : ∀ x, foldedSetIterable iter X.env x = pure x := by intro _; rfl) : PS X (.For tg iter body [] pos) (tFor wi g tb) := by
  intro pins s σ H D I h
  refine wpAny_For (thn (hi pins s σ H _ I h) fun v s1 h1 => thn h1 fun itv s2 h2 => ?_) hs
  obtain ⟨it, fp, tn, J, H2, e, I2, T, st2, f2, W, ⟨m0, w0⟩, turn⟩ := h2
  subst e
  -- what stays true of the iterator's objects through the loop
  have stat : ∀ {H' : Hp}, (∀ b ∈ fp, H' b = none) → ∀ b ∈ fp, FpOk X pins H' b := fun hn b hb => ⟨hn b hb, (f2 b hb).2⟩
  refine codeAny_forLoop_any (fun n s' => ∃ i σ' H', Inv X pins σ' H' s' ∧ tn i s'.heap ∧ (∀ b ∈ fp, H' b = none) ∧ W i n σ' H') ?_ m0 ⟨0, σ, H2, I2, st2, fun b hb => (f2 b hb).1, w0⟩
  rintro n s3 ⟨i, σ3, H3, I3, st3, fr3, w3⟩
  rcases turn i n σ3 H3 w3 with ⟨stop, qn⟩ | ⟨go, N, hN, step⟩
  · refine wpAny_passesOwn hp (thn (T.done X rfl rfl rfl hc i pins s3 σ3 H3 X.xe I3 (stat fr3) st3 stop) fun r s4 ⟨hr, I4⟩ => ?_)
    subst hr
    exact wpAny_execs_nil ⟨σ3, H3, I4, qn⟩
  · refine wpAny_passesOwn hp (thn (T.item X rfl rfl rfl hc i pins s3 σ3 H3 X.xe I3 (stat fr3) st3 go) fun r s4 ⟨u, hr, h4⟩ => ?_)
    subst hr
    refine wpAny_passesOwn hp (thn h4 fun _ s5 ⟨x, H5, I5, r5, y5, st5, fr5⟩ => ?_)
    have I5' := I5.pinned (stat fr5) (T.obj _ _ st5)
    refine wpAny_passesOwn hp (thn (hg _ s5 σ3 H5 x u _ I5' r5 (step x H5 y5)) fun _ s6 ⟨σ6, H6, I6, q6⟩ => ?_)
    refine wpAny_passesOwn hp (thn (hb _ s6 σ6 H6 _ I6 q6) fun f s7 q7 => ?_)
    have again : ∀ {σ7 : St} {H7 : Hp}, Inv X (pins ++ pinsAt fp s5.heap) σ7 H7 s7 → N σ7 H7 → ∃ m, m < n ∧ ∃ i σ' H', Inv X pins σ' H' s7 ∧ tn i s7.heap ∧ (∀ b ∈ fp, H' b = none) ∧ W i m σ' H' := fun {σ7 H7} I7 n7 => by
      obtain ⟨m', hm, w7⟩ := hN σ7 H7 n7
      refine ⟨m', hm, i + 1, σ7, H7, I7.unpinned, T.keep _ _ _ st5 fun b hb o e => (I7.pin (b, o) (List.mem_append_right _ (List.mem_append_right _ (mem_pinsAt hb e)))).1, fun b hb => ?_, w7⟩
      obtain ⟨o, e, d⟩ := T.obj _ _ st5 b hb
      exact (I7.pin (b, o) (List.mem_append_right _ (List.mem_append_right _ (mem_pinsAt hb e)))).2.1
    cases f with
    | next => obtain ⟨σ7, H7, I7, n7⟩ := q7; exact again I7 n7
    | cont => obtain ⟨σ7, H7, I7, n7⟩ := q7; exact again I7 n7
    | brk => obtain ⟨σ7, H7, I7, q7⟩ := q7; exact ⟨σ7, H7, I7.unpinned, q7⟩
    | ret v => obtain ⟨x7, σ7, H7, I7, r7, q7⟩ := q7; exact ⟨x7, σ7, H7, I7.unpinned, r7, q7⟩
end

/-- over a list that the body leaves as it is -/
theorem for_list {K : PySem.W.Frag} {a : Addr} {xs : List V} {g : TG} {tb : TS} {D : Ends} {σ : St} {H : Hp} (Pv : Nat → St → Hp → Prop) (h0 : Pv 0 σ H) (hl : ∀ i σ H, i ≤ xs.length → Pv i σ H → SqL K H a xs)
    (hs : ∀ i x σ H, xs[i]? = some x → Pv i σ H → g x σ H fun σ2 H2 => tb { D with nx := Pv (i + 1), ct := Pv (i + 1), bk := D.nx } σ2 H2) (hd : ∀ σ H, Pv xs.length σ H → D.nx σ H) :
    ∃ W : Nat → Nat → St → Hp → Prop, (∃ m, W 0 m σ H) ∧ ∀ i m σ H, W i m σ H →
      ((Itl K a).stop i H ∧ D.nx σ H) ∨ ((Itl K a).go i H ∧ ∃ N : St → Hp → Prop, (∀ σ' H', N σ' H' → ∃ m', m' < m ∧ W (i + 1) m' σ' H') ∧ ∀ x H', (Itl K a).yld i H x H' → g x σ H' fun σ2 H2 => tb { D with nx := N, ct := N, bk := D.nx } σ2 H2) := by
  refine ⟨fun i m σ H => m = xs.length - i ∧ i ≤ xs.length ∧ Pv i σ H, ⟨xs.length, by simp, Nat.zero_le _, h0⟩, ?_⟩
  rintro i m σ H ⟨rfl, hi, p⟩
  have q := hl i σ H hi p
  by_cases hlt : i < xs.length
  · refine .inr ⟨⟨xs, xs[i], q, by simp [hlt]⟩, Pv (i + 1), fun σ' H' p' => ⟨xs.length - (i + 1), by omega, rfl, hlt, p'⟩, fun x H' y => ?_⟩
    obtain ⟨e, y⟩ := y
    subst e
    exact hs i x σ _ (y xs q) p
  · have e : i = xs.length := by omega
    subst e
    exact .inl ⟨⟨xs, q, Nat.le_refl _⟩, hd σ H p⟩
theorem for_tup {K : PySem.W.Frag} {a : Addr} {xs : List V} {g : TG} {tb : TS} {D : Ends} {σ : St} {H : Hp} (Pv : Nat → St → Hp → Prop) (h0 : Pv 0 σ H) (hl : ∀ i σ H, i ≤ xs.length → Pv i σ H → SqT K H a xs)
    (hs : ∀ i x σ H, xs[i]? = some x → Pv i σ H → g x σ H fun σ2 H2 => tb { D with nx := Pv (i + 1), ct := Pv (i + 1), bk := D.nx } σ2 H2) (hd : ∀ σ H, Pv xs.length σ H → D.nx σ H) :
    ∃ W : Nat → Nat → St → Hp → Prop, (∃ m, W 0 m σ H) ∧ ∀ i m σ H, W i m σ H →
      ((Itt K a).stop i H ∧ D.nx σ H) ∨ ((Itt K a).go i H ∧ ∃ N : St → Hp → Prop, (∀ σ' H', N σ' H' → ∃ m', m' < m ∧ W (i + 1) m' σ' H') ∧ ∀ x H', (Itt K a).yld i H x H' → g x σ H' fun σ2 H2 => tb { D with nx := N, ct := N, bk := D.nx } σ2 H2) := by
  refine ⟨fun i m σ H => m = xs.length - i ∧ i ≤ xs.length ∧ Pv i σ H, ⟨xs.length, by simp, Nat.zero_le _, h0⟩, ?_⟩
  rintro i m σ H ⟨rfl, hi, p⟩
  have q := hl i σ H hi p
  by_cases hlt : i < xs.length
  · refine .inr ⟨⟨xs, xs[i], q, by simp [hlt]⟩, Pv (i + 1), fun σ' H' p' => ⟨xs.length - (i + 1), by omega, rfl, hlt, p'⟩, fun x H' y => ?_⟩
    obtain ⟨e, y⟩ := y
    subst e
    exact hs i x σ _ (y xs q) p
  · have e : i = xs.length := by omega
    subst e
    exact .inl ⟨⟨xs, q, Nat.le_refl _⟩, hd σ H p⟩
theorem for_range {lo : Int} {n : Nat} {g : TG} {tb : TS} {D : Ends} {σ : St} {H : Hp} (Pv : Nat → St → Hp → Prop) (h0 : Pv 0 σ H)
    (hs : ∀ i σ H, i < n → Pv i σ H → g (.int (lo + i)) σ H fun σ2 H2 => tb { D with nx := Pv (i + 1), ct := Pv (i + 1), bk := D.nx } σ2 H2) (hd : ∀ σ H, Pv n σ H → D.nx σ H) :
    ∃ W : Nat → Nat → St → Hp → Prop, (∃ m, W 0 m σ H) ∧ ∀ i m σ H, W i m σ H →
      ((Itr lo n).stop i H ∧ D.nx σ H) ∨ ((Itr lo n).go i H ∧ ∃ N : St → Hp → Prop, (∀ σ' H', N σ' H' → ∃ m', m' < m ∧ W (i + 1) m' σ' H') ∧ ∀ x H', (Itr lo n).yld i H x H' → g x σ H' fun σ2 H2 => tb { D with nx := N, ct := N, bk := D.nx } σ2 H2) := by
  refine ⟨fun i m σ H => m = n - i ∧ i ≤ n ∧ Pv i σ H, ⟨n, by simp, Nat.zero_le _, h0⟩, ?_⟩
  rintro i m σ H ⟨rfl, hi, p⟩
  by_cases hlt : i < n
  · refine .inr ⟨hlt, Pv (i + 1), fun σ' H' p' => ⟨n - (i + 1), by omega, rfl, hlt, p'⟩, fun x H' y => ?_⟩
    obtain ⟨e, y⟩ := y
    subst e y
    exact hs i σ _ hlt p
  · have e : i = n := by omega
    subst e
    exact .inl ⟨Nat.le_refl _, hd σ H p⟩
end L2

namespace L2
open PySem PySem.Spec PyProof.Rows

abbrev R2 := V → V → Hp → VK → Prop
/-- a two-place operation on values: f is binaryOp op, inplaceOp op or compareOp op -/
def OpR (X : Cx) (f : Value → Value → Sem Value) (r : R2) : Prop :=
  ∀ (pins : List (Addr × Obj)) (s : Shared) (σ : St) (H : Hp) (x y : V) (v u : Value) (Q : VK), Inv X pins σ H s → RelV x v → RelV y u → r x y H Q →
    wpAny (model X.prog X.w) X.A (f v u) (EP X pins σ Q) X.xe s
/-- a one-place operation -/
def UnR (X : Cx) (f : Value → Sem Value) (r : V → Hp → VK → Prop) : Prop :=
  ∀ (pins : List (Addr × Obj)) (s : Shared) (σ : St) (H : Hp) (x : V) (v : Value) (Q : VK), Inv X pins σ H s → RelV x v → r x H Q →
    wpAny (model X.prog X.w) X.A (f v) (EP X pins σ Q) X.xe s
/-- a call of a value that is known (a builtin, a type) with values -/
def CallR (X : Cx) (f : Value) (r : List V → Hp → VK → Prop) : Prop :=
  ∀ (pins : List (Addr × Obj)) (s : Shared) (σ : St) (H : Hp) (xs : List V) (us : List Value) (Q : VK), Inv X pins σ H s → Vals xs us → r xs H Q →
    wpAny (model X.prog X.w) X.A (call f us) (EP X pins σ Q) X.xe s
def tOp (r : R2) (ta tb : TE) : TE := fun σ H Q => ta σ H fun x H1 => tb σ H1 fun y H2 => r x y H2 Q
def tUn (r : V → Hp → VK → Prop) (ta : TE) : TE := fun σ H Q => ta σ H fun x H1 => r x H1 Q
/-- ints in, under C, and a value out -/
def rI (C : Int → Int → Prop) (g : Int → Int → V) : R2 := fun x y H Q => ∃ i j, x = .int i ∧ y = .int j ∧ C i j ∧ Q (g i j) H
def rI0 (g : Int → Int → V) : R2 := fun x y H Q => ∃ i j, x = .int i ∧ y = .int j ∧ Q (g i j) H
def rU (g : Int → V) : V → Hp → VK → Prop := fun x H Q => ∃ i, x = .int i ∧ Q (g i) H

section
variable {X : Cx} {a b c : Expr} {ta tb tc : TE} {pos : Pos}

theorem binT (ha : PE X a ta) (hb : PE X b tb) {pins : List (Addr × Obj)} {s : Shared} {σ : St} {H : Hp} {R : V → V → Hp → Prop} (I : Inv X pins σ H s)
    (h : ta σ H fun x H1 => tb σ H1 fun y H2 => R x y H2) {Q : Value → Shared → Prop} {f : Value → Value → Sem Value}
    (hf : ∀ v u s2 x y H2, Inv X pins σ H2 s2 → RelV x v → RelV y u → R x y H2 → wpAny (model X.prog X.w) X.A (f v u) Q X.xe s2) :
    wpAny (model X.prog X.w) X.A (eval a X.env) (fun v s₁ => wpAny (model X.prog X.w) X.A (eval b X.env) (fun u s₂ => wpAny (model X.prog X.w) X.A (f v u) Q X.xe s₂) X.xe s₁) X.xe s := by
  refine thn (ha pins s σ H _ I h) fun v s1 ⟨x, H1, I1, r1, q1⟩ => ?_
  refine thn (hb pins s1 σ H1 _ I1 q1) fun u s2 ⟨y, H2, I2, r2, q2⟩ => ?_
  exact hf v u s2 x y H2 I2 r1 r2 q2

theorem pe_op {op : Operator} {r : R2} (ho : OpR X (binaryOp op) r) (ha : PE X a ta) (hb : PE X b tb) : PE X (.BinOp a op b pos) (tOp r ta tb) := by
  intro pins s σ H Q I h
  exact wpAny_BinOp (binT ha hb I h fun v u s2 x y H2 I2 rx ry q => ho pins s2 σ H2 x y v u Q I2 rx ry q)
theorem pe_un {op : UnaryOp} {r : V → Hp → VK → Prop} (ho : UnR X (unaryOp op) r) (ha : PE X a ta) : PE X (.UnaryOp op a pos) (tUn r ta) := by
  intro pins s σ H Q I h
  exact UnaryOp_ (thn (ha pins s σ H _ I h) fun v s1 ⟨x, H1, I1, r1, q1⟩ => ho pins s1 σ H1 x v Q I1 r1 q1)
/-! ### ints -/
theorem opI {f : Value → Value → Sem Value} {C : Int → Int → Prop} {g : Int → Int → Int}
    (rule : ∀ (i j : Int) (t u : Tok) (s : Shared) (Q : Value → Shared → Prop) (E : Value → Shared → Prop), C i j → Q (.int (g i j) s.toks) { s with toks := s.toks + 1 } → wpAny (model X.prog X.w) X.A (f (.int i t) (.int j u)) Q E s) :
    OpR X f (rI C fun i j => .int (g i j)) := by
  intro pins s σ H x y v u Q I rx ry h
  obtain ⟨i, j, rfl, rfl, hc, q⟩ := h
  obtain ⟨t, rfl⟩ := rx
  obtain ⟨t', rfl⟩ := ry
  exact rule i j t t' s _ _ hc ⟨.int (g i j), H, I.tok _, ⟨_, rfl⟩, q⟩
theorem opI0 {f : Value → Value → Sem Value} {g : Int → Int → Int}
    (rule : ∀ (i j : Int) (t u : Tok) (s : Shared) (Q : Value → Shared → Prop) (E : Value → Shared → Prop), Q (.int (g i j) s.toks) { s with toks := s.toks + 1 } → wpAny (model X.prog X.w) X.A (f (.int i t) (.int j u)) Q E s) :
    OpR X f (rI0 fun i j => .int (g i j)) := by
  intro pins s σ H x y v u Q I rx ry h
  obtain ⟨i, j, rfl, rfl, q⟩ := h
  obtain ⟨t, rfl⟩ := rx
  obtain ⟨t', rfl⟩ := ry
  exact rule i j t t' s _ _ ⟨.int (g i j), H, I.tok _, ⟨_, rfl⟩, q⟩
theorem opB0 {f : Value → Value → Sem Value} {g : Int → Int → Bool}
    (rule : ∀ (i j : Int) (t u : Tok) (s : Shared) (Q : Value → Shared → Prop) (E : Value → Shared → Prop), Q (.bool (g i j)) s → wpAny (model X.prog X.w) X.A (f (.int i t) (.int j u)) Q E s) :
    OpR X f (rI0 fun i j => .bl (g i j)) := by
  intro pins s σ H x y v u Q I rx ry h
  obtain ⟨i, j, rfl, rfl, q⟩ := h
  obtain ⟨t, rfl⟩ := rx
  obtain ⟨t', rfl⟩ := ry
  exact rule i j t t' s _ _ ⟨.bl (g i j), H, I, rfl, q⟩

def CDiv (i j : Int) : Prop := 0 < j ∧ j < 1073741824
def CPow (i j : Int) : Prop := 0 ≤ j ∧ j ≤ 1000000 ∧ i.natAbs < 2 ^ 64
def CMul (i j : Int) : Prop := (-(2 ^ 64) < i ∧ i < 2 ^ 64) ∨ (-(2 ^ 64) < j ∧ j < 2 ^ 64)
theorem CMul.ok {i j : Int} (h : CMul i j) : IntMulOk i j := by
  rcases h with ⟨h1, h2⟩ | ⟨h1, h2⟩
  · exact .of_left (intBits_le_64 h1 h2)
  · exact .of_right (intBits_le_64 h1 h2)
theorem op_add : OpR X (binaryOp .Add) (rI0 fun i j => .int (i + j)) := opI0 fun _ _ _ _ _ _ _ q => add_int q
theorem op_sub : OpR X (binaryOp .Sub) (rI0 fun i j => .int (i - j)) := opI0 fun _ _ _ _ _ _ _ q => sub_int q
theorem op_mul : OpR X (binaryOp .Mult) (rI CMul fun i j => .int (i * j)) := opI fun _ _ _ _ _ _ _ hc q => mul_int q hc.ok
/-- // by a positive divisor -/
theorem op_fdiv : OpR X (binaryOp .FloorDiv) (rI CDiv fun i j => .int (i / j)) := opI fun i j _ _ _ _ _ hc q => by
  have h1 : (0 : Int) < j := hc.1
  have h2 : j < 1073741824 := hc.2
  exact floordiv_int (by omega) (by rw [Int.fdiv_eq_ediv_of_nonneg i (by omega)]; exact q) (.inl (PyProof.noPylong_small (by omega)))
/-- % by a positive divisor of any size -/
theorem op_mod : OpR X (binaryOp .Mod) (rI (fun _ j => 0 < j) fun i j => .int (i % j)) := opI fun i j _ _ _ _ _ hc q => by
  have h1 : (0 : Int) < j := hc
  exact mod_int' (by omega) (by rw [Int.fmod_eq_emod_of_nonneg i (by omega)]; exact q)
theorem unI {f : Value → Sem Value} {g : Int → Int}
    (rule : ∀ (i : Int) (t : Tok) (s : Shared) (Q : Value → Shared → Prop) (E : Value → Shared → Prop), Q (.int (g i) s.toks) { s with toks := s.toks + 1 } → wpAny (model X.prog X.w) X.A (f (.int i t)) Q E s) :
    UnR X f (rU fun i => .int (g i)) := by
  intro pins s σ H x v Q I rx h
  obtain ⟨i, rfl, q⟩ := h
  obtain ⟨t, rfl⟩ := rx
  exact rule i t s _ _ ⟨.int (g i), H, I.tok _, ⟨_, rfl⟩, q⟩
theorem un_neg : UnR X (unaryOp .USub) (rU fun i => .int (-i)) := unI fun _ _ _ _ _ q => neg_int q
end

/-- the scalars that == tells apart as data does -/
def scal : V → V → Bool
  | .non, .non => true | .non, .int _ => true | .int _, .non => true | .non, .bl _ => true | .bl _, .non => true | .non, .str _ => true | .str _, .non => true
  | .int _, .int _ => true | .bl _, .bl _ => true | .str _, .str _ => true | .byt _, .byt _ => true
  | .int _, .str _ => true | .str _, .int _ => true | .bl _, .str _ => true | .str _, .bl _ => true
  | _, _ => false
def rEq : R2 := fun x y H Q => scal x y = true ∧ Q (.bl (decide (x = y))) H
def rNe : R2 := fun x y H Q => scal x y = true ∧ Q (.bl (!decide (x = y))) H

theorem dec_int {i j : Int} : decide (V.int i = V.int j) = (i == j) := by
  rw [Bool.eq_iff_iff]
  simp
theorem dec_bl {i j : Bool} : decide (V.bl i = V.bl j) = (i == j) := by
  rw [Bool.eq_iff_iff]
  simp
theorem dec_str {i j : Str} : decide (V.str i = V.str j) = (i == j) := by
  rw [Bool.eq_iff_iff]
  simp
theorem dec_byt {i j : Array UInt8} : decide (V.byt i = V.byt j) = (i.toList == j.toList) := by
  rw [Bool.eq_iff_iff]
  cases i
  cases j
  simp

section
variable {X : Cx} {a b c : Expr} {ta tb tc : TE} {pos : Pos}
theorem fin_bl {pins : List (Addr × Obj)} {σ : St} {H : Hp} {s : Shared} {Q : VK} {k k' : Bool} (I : Inv X pins σ H s) (q : Q (.bl k) H) (e : k = k') : EP X pins σ Q (.bool k') s := by
  subst e
  exact ⟨.bl k, H, I, rfl, q⟩
theorem op_eq : OpR X (compareOp .Eq) rEq := by
  intro pins s σ H x y v u Q I rx ry h
  obtain ⟨hs, q⟩ := h
  cases x with
  | non =>
    cases rx
    cases y with
    | non => cases ry; exact PySem.EqNone.eq_none_none (fin_bl I q (by simp))
    | bl j => cases ry; exact PySem.EqNone.eq_none_bool (fin_bl I q (by simp))
    | int j => obtain ⟨t', rfl⟩ := ry; exact PySem.EqNone.eq_none_int (fin_bl I q (by simp))
    | str j => obtain ⟨t', rfl⟩ := ry; exact PySem.EqNone.eq_none_str (fin_bl I q (by simp))
    | _ => exact absurd (show false = true from hs) Bool.false_ne_true
  | bl i =>
    cases rx
    cases y with
    | non => cases ry; exact PySem.EqNone.eq_bool_none (fin_bl I q (by simp))
    | bl j => cases ry; exact eq_bool (fin_bl I q dec_bl)
    | str j => obtain ⟨t', rfl⟩ := ry; exact PySem.EqMixed.eq_bool_str (fin_bl I q (by simp))
    | _ => exact absurd (show false = true from hs) Bool.false_ne_true
  | int i =>
    obtain ⟨t, rfl⟩ := rx
    cases y with
    | non => cases ry; exact PySem.EqNone.eq_int_none (fin_bl I q (by simp))
    | int j => obtain ⟨t', rfl⟩ := ry; exact eq_int (fin_bl I q dec_int)
    | str j => obtain ⟨t', rfl⟩ := ry; exact PySem.EqMixed.eq_int_str (fin_bl I q (by simp))
    | _ => exact absurd (show false = true from hs) Bool.false_ne_true
  | str i =>
    obtain ⟨t, rfl⟩ := rx
    cases y with
    | non => cases ry; exact PySem.EqNone.eq_str_none (fin_bl I q (by simp))
    | bl j => cases ry; exact PySem.EqMixed.eq_str_bool (fin_bl I q (by simp))
    | int j => obtain ⟨t', rfl⟩ := ry; exact PySem.EqMixed.eq_str_int (fin_bl I q (by simp))
    | str j => obtain ⟨t', rfl⟩ := ry; exact eq_str (fin_bl I q dec_str)
    | _ => exact absurd (show false = true from hs) Bool.false_ne_true
  | byt i =>
    obtain ⟨t, rfl⟩ := rx
    cases y with
    | byt j => obtain ⟨t', rfl⟩ := ry; exact PySem.W.eq_bytes (fin_bl I q dec_byt)
    | _ => exact absurd (show false = true from hs) Bool.false_ne_true
  | _ => cases y <;> exact absurd (show false = true from hs) Bool.false_ne_true
theorem op_ne : OpR X (compareOp .NotEq) rNe := by
  intro pins s σ H x y v u Q I rx ry h
  obtain ⟨hs, q⟩ := h
  cases x with
  | non =>
    cases rx
    cases y with
    | non => cases ry; exact PySem.EqNone.ne_none_none (fin_bl I q (by simp))
    | bl j => cases ry; exact PySem.EqNone.ne_none_bool (fin_bl I q (by simp))
    | int j => obtain ⟨t', rfl⟩ := ry; exact PySem.EqNone.ne_none_int (fin_bl I q (by simp))
    | str j => obtain ⟨t', rfl⟩ := ry; exact PySem.EqNone.ne_none_str (fin_bl I q (by simp))
    | _ => exact absurd (show false = true from hs) Bool.false_ne_true
  | bl i =>
    cases rx
    cases y with
    | non => cases ry; exact PySem.EqNone.ne_bool_none (fin_bl I q (by simp))
    | bl j => cases ry; exact ne_bool (fin_bl I q (congrArg not dec_bl))
    | str j => obtain ⟨t', rfl⟩ := ry; exact PySem.EqMixed.ne_bool_str (fin_bl I q (by simp))
    | _ => exact absurd (show false = true from hs) Bool.false_ne_true
  | int i =>
    obtain ⟨t, rfl⟩ := rx
    cases y with
    | non => cases ry; exact PySem.EqNone.ne_int_none (fin_bl I q (by simp))
    | int j => obtain ⟨t', rfl⟩ := ry; exact ne_int (fin_bl I q (congrArg not dec_int))
    | str j => obtain ⟨t', rfl⟩ := ry; exact PySem.EqMixed.ne_int_str (fin_bl I q (by simp))
    | _ => exact absurd (show false = true from hs) Bool.false_ne_true
  | str i =>
    obtain ⟨t, rfl⟩ := rx
    cases y with
    | non => cases ry; exact PySem.EqNone.ne_str_none (fin_bl I q (by simp))
    | bl j => cases ry; exact PySem.EqMixed.ne_str_bool (fin_bl I q (by simp))
    | int j => obtain ⟨t', rfl⟩ := ry; exact PySem.EqMixed.ne_str_int (fin_bl I q (by simp))
    | str j => obtain ⟨t', rfl⟩ := ry; exact ne_str (fin_bl I q (congrArg not dec_str))
    | _ => exact absurd (show false = true from hs) Bool.false_ne_true
  | byt i =>
    obtain ⟨t, rfl⟩ := rx
    cases y with
    | byt j => obtain ⟨t', rfl⟩ := ry; exact PySem.W.ne_bytes (fin_bl I q (congrArg not dec_byt))
    | _ => exact absurd (show false = true from hs) Bool.false_ne_true
  | _ => cases y <;> exact absurd (show false = true from hs) Bool.false_ne_true

theorem op_lt : OpR X (compareOp .Lt) (rI0 fun i j => .bl (decide (i < j))) := opB0 fun _ _ _ _ _ _ _ q => lt_int q
theorem op_gt : OpR X (compareOp .Gt) (rI0 fun i j => .bl (decide (j < i))) := opB0 fun _ _ _ _ _ _ _ q => gt_int q
theorem op_ge : OpR X (compareOp .GtE) (rI0 fun i j => .bl (decide (j ≤ i))) := opB0 fun _ _ _ _ _ _ _ q => ge_int q
theorem nomark (b : Expr) {op : CmpOp} (h : op ≠ .In := by decide) (h2 : op ≠ .NotIn := by decide) : behindInMarks op b = false := by
  have e1 : (op == CmpOp.In) = false := by cases op <;> first | rfl | exact absurd rfl h
  have e2 : (op == CmpOp.NotIn) = false := by cases op <;> first | rfl | exact absurd rfl h2
  cases b <;> simp [behindInMarks, e1, e2]
/-- a comparison as a value; hm: nomark b, or (for in, not in) by with_unfolding_all rfl -/
theorem pe_cmpR {op : CmpOp} {r : R2} (ho : OpR X (compareOp op) r) (ha : PE X a ta) (hb : PE X b tb) (hm : behindInMarks op b = false) : PE X (.Compare a [op] [b] pos) (tOp r ta tb) := by
  intro pins s σ H Q I h
  exact wpAny_Compare1 (binT ha hb I h fun v u s2 x y H2 I2 rx ry q => ho pins s2 σ H2 x y v u Q I2 rx ry q) hm
/-- a reading of a value as a test -/
def tTest (t : TE) : TT := fun σ H Q => t σ H fun x H' => ∃ k, x = .bl k ∧ Q k H'
theorem pt_cmpR {op : CmpOp} {r : R2} (ho : OpR X (compareOp op) r) (ha : PE X a ta) (hb : PE X b tb) (hm : behindInMarks op b = false) : PT X (.Compare a [op] [b] pos) (tTest (tOp r ta tb)) := by
  intro pins s σ H Q I h
  refine wpAny_isTrue_Compare1 (thn (ha pins s σ H _ I h) fun v s1 ⟨x, H1, I1, r1, q1⟩ => thn (hb pins s1 σ H1 _ I1 q1) fun u s2 ⟨y, H2, I2, r2, q2⟩ =>
    thn (ho pins s2 σ H2 x y v u _ I2 r1 r2 q2) fun c s3 ⟨z, H3, I3, r3, k, e, q3⟩ => ?_) hm
  subst e
  cases r3
  exact wpAny_truthy_bool ⟨H3, I3, q3⟩
theorem line63 : (sizeLine : Nat) < 2 ^ 63 := by rw [sizeLine_eq]; decide
/-! ### scalar builtins, by CallR -/
theorem vals1 {x : V} {us : List Value} (r : Vals [x] us) : ∃ u, us = [u] ∧ RelV x u := by
  cases r with
  | cons r1 r2 => cases r2; exact ⟨_, rfl, r1⟩
theorem vals2 {x y : V} {us : List Value} (r : Vals [x, y] us) : ∃ u w', us = [u, w'] ∧ RelV x u ∧ RelV y w' := by
  cases r with
  | cons r1 r2 =>
    cases r2 with
    | cons r3 r4 => cases r4; exact ⟨_, _, rfl, r1, r3⟩
theorem call_min2 (hc : X.calm = true) : CallR X (.builtin "min") (fun xs H Q => ∃ i j, xs = [.int i, .int j] ∧ Q (.int (if j < i then j else i)) H) := by
  intro pins s σ H xs us Q I r h
  obtain ⟨i, j, rfl, q⟩ := h
  obtain ⟨u, w', rfl, ⟨t, rfl⟩, ⟨t', rfl⟩⟩ := vals2 r
  refine min_two_ints (I.ok.hd hc) fun h' tk k => ⟨_, H, I.kept k, ?_, q⟩
  by_cases hj : j < i
  · rw [if_pos hj, if_pos hj]; exact ⟨_, rfl⟩
  · rw [if_neg hj, if_neg hj]; exact ⟨_, rfl⟩
end
end L2

namespace L2
open PySem PySem.Spec PyProof.Rows

/-! ### an instance, its attributes a map -/
structure ObjM (h : Heap) (x dx C : Addr) (mA : Str → Option Value) : Prop where
  obj : h.get? x = some (PySem.W.instObj C dx)
  ns : h.Ns1 dx mA
  ne : dx ≠ x

theorem lookIn_ns {h : Heap} {dx : Addr} {mA : Str → Option Value} (n : h.Ns1 dx mA) : ∃ od, h.get? dx = some od ∧ ∀ name, PySem.W.lookIn name od = some (mA name) := by
  obtain ⟨o, es, ep, ho, hd, hk, _, hm⟩ := n
  refine ⟨o, ho, fun name => ?_⟩
  have e := hm name
  unfold nsFind findBy at e
  rw [← Array.find?_toList] at e
  unfold PySem.W.lookIn
  rw [hd]
  dsimp only
  split
  · rename_i y q
    rw [q] at e
    exact congrArg some e
  · rename_i q
    rw [q] at e
    have a : es.toList.any (·.refKey) = false := by
      rw [List.any_eq_false]
      intro y hy
      obtain ⟨z, t, hkey⟩ := hk y (Array.mem_toList_iff.mp hy)
      simp [DictEntry.refKey, hkey]
    have a' : ¬ es.toList.any (·.refKey) = true := by rw [a]; exact Bool.false_ne_true
    rw [if_neg a']
    exact congrArg some e

theorem ObjM.look {h : Heap} {x dx C : Addr} {mA : Str → Option Value} (I : ObjM h x dx C mA) : ∃ od, PySem.W.InstAt h x (PySem.W.instObj C dx) C (some od) ∧ ∀ name, PySem.W.lookIn name od = some (mA name) :=
  let ⟨od, ho, hl⟩ := lookIn_ns I.ns
  ⟨od, ⟨I.obj, rfl, rfl, ho⟩, hl⟩

section
variable {prog : Program} {w : World} {A : Around} {E : Value → Shared → Prop} {s : Shared} {K : PySem.W.Frag} {x dx C f : Addr} {mA : Str → Option Value} {name : Str} {v : Value}

end

/-! ### the attributes as a list of pairs -/
def putF (f : Str) (v : V) : List (Str × V) → List (Str × V)
  | [] => [(f, v)]
  | (g, x) :: r => if g = f then (g, v) :: r else (g, x) :: putF f v r
section
variable {P : Program} {w : World} {H H' : Hp} {h h' : Heap} {a C dx : Addr} {fs fs' : List (Str × V)}
theorem ins_get (hok : HOk P w H h) (e : H a = some (.ins C dx fs)) : ∃ mA, ObjM h a dx C mA ∧ (∀ f, RelO (fs.lookup f) (mA f)) ∧ PySem.Within mA (fs.map (·.1)) ∧ fs.length ≤ 1000 ∧ H dx = some (.own a) := by
  obtain ⟨d, z, ne, ob, mA, n, r, q⟩ := (show ObjOk P w H h a (.ins C dx fs) from hok a _ e)
  exact ⟨mA, ⟨ob, n, ne⟩, r, q, z, d⟩
end

/-! ### what of the text a class must have -/
structure Cls (K : PySem.W.Frag) (C : Addr) : Prop where
  pg : PySem.W.plainGet K C Str.empty = true
  hd : PySem.W.hasDictIn K C = true
  po : PySem.W.plainOver K C = true
  sa : PySem.W.findIn K (.ref C) "__setattr__" = some (some (.builtin "object.__setattr__"))
theorem Cls.get {K : PySem.W.Frag} {C : Addr} (c : Cls K C) (f : Str) : PySem.W.plainGet K C f = true := c.pg
/-- no class of it has the name -/
def NoAttr (K : PySem.W.Frag) (C : Addr) (f : Str) : Prop := PySem.W.findIn K (.ref C) f = some none
section
variable {X : Cx} {pins : List (Addr × Obj)} {σ : St} {H : Hp} {s : Shared} {a C dx : Addr} {fs : List (Str × V)} {f : Str} {v : V} {A : Around} {E : Value → Shared → Prop}

/-- a new instance, tracked, without attributes -/
theorem Inv.made (I : Inv X pins σ H s) : Inv X pins σ (upd (upd H s.heap.objs.size (.own (s.heap.objs.size + 1))) (s.heap.objs.size + 1) (.ins C s.heap.objs.size []))
    { s with heap := (s.heap.push PySem.W.emptyDict).push (PySem.W.instObj C s.heap.objs.size) } := by
  have e1 : (s.heap.push PySem.W.emptyDict).get? s.heap.objs.size = some PySem.W.emptyDict := Heap.get?_push_size s.heap rfl
  have e2 : ((s.heap.push PySem.W.emptyDict).push (PySem.W.instObj C s.heap.objs.size)).get? (s.heap.objs.size + 1) = some (PySem.W.instObj C s.heap.objs.size) := by
    have := Heap.get?_push_size (s.heap.push PySem.W.emptyDict) (o := PySem.W.instObj C s.heap.objs.size) rfl
    rwa [Heap.size_push] at this
  have e3 : (s.heap.push PySem.W.emptyDict).Ns s.heap.objs.size (fun _ => none) := ⟨PySem.W.emptyDict, #[], _, e1, rfl, (fun e he => absurd he (by simp)), fun _ => rfl⟩
  have I1 := I.laid (a := s.heap.objs.size) (o := .own (s.heap.objs.size + 1)) (h' := s.heap.push PySem.W.emptyDict) (t' := s.toks) (fun b u q => Heap.get?_push_of_some _ q) (Nat.le_refl _) ⟨_, e1⟩
  refine I1.laid (a := s.heap.objs.size + 1) (o := .ins C s.heap.objs.size []) (t' := s.toks) (fun b u q => Heap.get?_push_of_some _ q) (Nat.le_of_eq (Heap.size_push _ _)) ?_
  have ne : s.heap.objs.size ≠ s.heap.objs.size + 1 := Nat.ne_of_lt (Nat.lt_succ_self _)
  refine ⟨by rw [upd_ne ne, upd_same], Nat.zero_le _, ne, e2, fun _ => none, (Heap.Ns1.of_empty e3).at fun o q => Heap.get?_push_of_some _ q, fun _ => True.intro, fun y hy => absurd rfl hy⟩

end

/-- e.f, an attribute of the instance -/
def tFld (K : PySem.W.Frag) (ta : TE) (f : Str) : TE := fun σ H Q => ta σ H fun x H1 => ∃ a C dx fs v, x = .ref a ∧ H1 a = some (.ins C dx fs) ∧ Cls K C ∧ NoAttr K C f ∧ fs.lookup f = some v ∧ Q v H1
/-- e.f = value -/
def sFld (K : PySem.W.Frag) (ta tv : TE) (f : Str) : TS := fun D σ H => tv σ H fun y H1 => ta σ H1 fun x H2 => ∃ a C dx fs, x = .ref a ∧ H2 a = some (.ins C dx fs) ∧ Cls K C ∧ NoAttr K C f ∧ fs.length < 1000 ∧
  D.nx σ (upd H2 a (.ins C dx (putF f y fs)))
section
variable {X : Cx} {o e value : Expr} {f : Str} {pos pos' tpos : Pos} {ta tv : TE}
end

section
variable {X : Cx} {pins : List (Addr × Obj)} {σ : St} {H : Hp} {s : Shared} {A : Around} {E : Value → Shared → Prop} {Q : Value → Shared → Prop} {c : Value} {b : Bool}
/-- the type of a value, as the fragment's deciders take it; for an instance its class -/
inductive TyOf (K : PySem.W.Frag) (H : Hp) : V → Value → Prop where
  | non : TyOf K H .non (.type "NoneType")
  | bl (x : Bool) : TyOf K H (.bl x) (.type "bool")
  | int (i : Int) : TyOf K H (.int i) (.type "int")
  | str (x : Str) : TyOf K H (.str x) (.type "str")
  | flt (x : UInt64) : TyOf K H (.flt x) (.type "float")
  | lst {a : Addr} {xs : List V} (e : H a = some (.lst xs)) : TyOf K H (.ref a) (.type "list")
  | frz {a : Addr} {o : Obj} {xs : List V} (e : H a = some (.frz o (.lst xs))) : TyOf K H (.ref a) (.type "list")
  | tup {a : Addr} {xs : List V} (e : H a = some (.tup xs)) : TyOf K H (.ref a) (.type "tuple")
  | dK {a : Addr} {kvs : List (Key × V)} (e : H a = some (.dK kvs)) : TyOf K H (.ref a) (.type "dict")
  | dT {a : Addr} {kvs : List (List Key × V)} (e : H a = some (.dT kvs)) : TyOf K H (.ref a) (.type "dict")
  | ins {a C dx : Addr} {fs : List (Str × V)} (e : H a = some (.ins C dx fs)) (cl : Cls K C) (ha : PySem.W.findIn K (.ref C) "__class__" = some (some (.builtin "object.__class__")))
      (hn : PySem.W.specialIn K (.builtin "object.__class__") "__get__" = some (some (.builtin "getset_descriptor.__get__"))) (htk : PySem.W.takesIn K (.builtin "object.__class__") = some true)
      (hm : PySem.W.mroIn K C (.type "object") = some true) : TyOf K H (.ref a) (.ref C)
/-- isinstance(x, c) for one class c, a built-in or an own one: kitOne's answer -/
theorem isinst_ok {x : V} {u t : Value} (I : Inv X pins σ H s) (rx : RelV x u) (ty : TyOf X.K H x t) (e : PySem.W.kitOne X.K t c = some b) (h : ∀ tk, Q (.bool b) { s with toks := tk }) :
    wpAny (model X.prog X.w) A (call (.builtin "isinstance") [u, c]) Q E s := by
  cases ty with
  | non => cases (show u = Value.none from rx); exact PySem.W.kia_one PySem.W.kitx_none I.kIn True.intro e (fun z => nomatch z) h
  | bl y => cases (show u = Value.bool y from rx); exact PySem.W.kia_one PySem.W.kitx_bool I.kIn True.intro e (fun z => nomatch z) h
  | int i => obtain ⟨t, q⟩ := (show ∃ t, u = Value.int i t from rx); cases q; exact PySem.W.kia_one PySem.W.kitx_int I.kIn True.intro e (fun z => nomatch z) h
  | str y => obtain ⟨t, q⟩ := (show ∃ t, u = Value.str y t from rx); cases q; exact PySem.W.kia_one PySem.W.kitx_str I.kIn True.intro e (fun z => nomatch z) h
  | flt y => obtain ⟨t, q⟩ := (show ∃ t, u = Value.float y t from rx); cases q; exact PySem.W.kia_one PySem.W.kitx_float I.kIn True.intro e (fun z => nomatch z) h
  | @lst a xs ea =>
    cases (show u = Value.ref a from rx)
    obtain ⟨_, _, n, _, h1⟩ := (show ObjOk X.prog X.w H s.heap a (.lst xs) from I.hok a _ ea)
    exact PySem.W.kia_one PySem.W.kitx_list I.kIn ⟨_, h1, rfl⟩ e (fun z => nomatch z) h
  | @frz a ob xs ea =>
    cases (show u = Value.ref a from rx)
    obtain ⟨_, _, _, n, _, h1⟩ := (show ObjOk X.prog X.w H s.heap a (.frz ob (.lst xs)) from I.hok a _ ea)
    exact PySem.W.kia_one PySem.W.kitx_list I.kIn ⟨_, h1, rfl⟩ e (fun z => nomatch z) h
  | @tup a xs ea =>
    cases (show u = Value.ref a from rx)
    obtain ⟨_, _, _, p⟩ := (show ObjOk X.prog X.w H s.heap a (.tup xs) from I.hok a _ ea)
    obtain ⟨o, h1, h2, _⟩ := p
    exact PySem.W.kia_one PySem.W.kitx_tuple I.kIn ⟨o, h1, h2⟩ e (fun z => nomatch z) h
  | @dK a kvs ea =>
    cases (show u = Value.ref a from rx)
    obtain ⟨_, _, vs, _, p⟩ := (show ObjOk X.prog X.w H s.heap a (.dK kvs) from I.hok a _ ea)
    obtain ⟨o, es, ep, h1, h2, _⟩ := p
    exact PySem.W.kia_one PySem.W.kitx_dict I.kIn ⟨o, h1, h2.1⟩ e (fun z => nomatch z) h
  | @dT a kvs ea =>
    cases (show u = Value.ref a from rx)
    obtain ⟨_, _, xs, _, o, es, ep, h1, h2, _⟩ := (show ObjOk X.prog X.w H s.heap a (.dT kvs) from I.hok a _ ea)
    exact PySem.W.kia_one PySem.W.kitx_dict I.kIn ⟨o, h1, h2.1⟩ e (fun z => nomatch z) h
  | @ins a C dx fs ea cl ha hn htk hm =>
    cases (show u = Value.ref a from rx)
    obtain ⟨mA, O, _⟩ := ins_get I.hok ea
    obtain ⟨od, J, _⟩ := O.look
    exact PySem.W.kia_one (PySem.W.kitx_own (cl.get _) cl.hd ha hn htk hm) I.kIn J e (fun z => nomatch z) h
end
end L2

namespace L2
open PySem PySem.Spec PyProof.Rows

/-! ### room -/
structure Room (k : Nat) (A : Around) : Prop where
  hd : A.handled = none
  dp : A.depth + 3 * k + 5 < recursionLimit
  un : A.units + 16 * k + 200 < cLine
theorem Room.mono {j k : Nat} {A : Around} (r : Room k A) (h : j ≤ k) : Room j A := ⟨r.hd, by have := r.dp; omega, by have := r.un; omega⟩
theorem Room.deeper {k : Nat} {A : Around} (r : Room (k + 1) A) (env : Env) : Room k (A.deeper env) :=
  ⟨r.hd, by have := r.dp; show A.depth + 1 + 3 * k + 5 < _; omega, by have := r.un; show A.units + 3 + 16 * k + 200 < _; omega⟩
theorem Room.in1 {k : Nat} {A : Around} (r : Room (k + 1) A) : Room k A.in1 :=
  ⟨r.hd, by have := r.dp; show A.depth + 3 * k + 5 < _; omega, by have := r.un; show A.units + 1 + 16 * k + 200 < _; omega⟩
theorem Room.depth {k : Nat} {A : Around} (r : Room k A) : A.depth < recursionLimit := by have := r.dp; omega
theorem Room.units {k : Nat} {A : Around} (r : Room k A) : A.units + 64 < cLine := by have := r.un; omega
/-! ### argument lists and displays -/
def tNil : TA := fun _ H Q => Q [] H
def tCons (ta : TE) (tr : TA) : TA := fun σ H Q => ta σ H fun x H1 => tr σ H1 fun xs H2 => Q (x :: xs) H2
section
variable {X : Cx} {e : Expr} {es : List Expr} {te : TE} {t : TA} {pos : Pos}
theorem pa_nil : PA X [] tNil := fun _ _ _ _ H Q I h => Calls.spliced_nil ⟨[], H, I, .nil, h⟩
theorem pa_cons (ha : PE X e te) (hr : PA X es t) (hs : starEach (e :: es) X.env = (false, eval e X.env) :: starEach es X.env := by rfl) : PA X (e :: es) (tCons te t) := by
  intro pos pins s σ H Q I h
  rw [hs]
  show wpAny _ _ (spliced ((false, eval e X.env) :: backTo pos (starEach es X.env))) _ _ s
  refine Calls.spliced_cons (thn (ha pins s σ H _ I h) fun u s1 ⟨x, H1, I1, r1, q1⟩ => ?_)
  exact thn (hr pos pins s1 σ H1 _ I1 q1) fun us s2 ⟨xs, H2, I2, r2, q2⟩ => ⟨x :: xs, H2, I2, .cons r1 r2, q2⟩

/-- a tuple, a list of written items -/
def tTup (t : TA) : TE := fun σ H Q => t σ H fun xs H1 => xs.length ≤ sizeLine ∧ ∀ p, H1 p = none → Q (.ref p) (upd H1 p (.tup xs))
def tLst (t : TA) : TE := fun σ H Q => t σ H fun xs H1 => xs.length ≤ sizeLine ∧ ∀ p, H1 p = none → Q (.ref p) (upd H1 p (.lst xs))
theorem pe_tup {x1} (h : PA X es t) : PE X (.Tuple es x1 pos) (tTup t) := by
  intro pins s σ H Q I hq
  refine wpAny_Tuple_spliced (thn (h pos pins s σ H _ I hq) fun us s1 ⟨xs, H1, I1, r, z, q⟩ => ⟨by rw [← r.length]; exact z, ?_⟩)
  have hf : H1 s1.heap.objs.size = none := I1.hok.fresh (Nat.le_refl _)
  refine ⟨.ref s1.heap.objs.size, upd H1 s1.heap.objs.size (.tup xs), I1.laid (t' := s1.toks) (fun b u e => Heap.get?_push_of_some _ e) (Nat.le_refl _) ?_, rfl, q _ hf⟩
  exact ⟨z, us, r, ⟨_, Heap.get?_push_size _ rfl, rfl, _, rfl⟩⟩
theorem pe_lst (h : PA X es t) : PE X (.List es pos) (tLst t) := by
  intro pins s σ H Q I hq
  refine wpAny_List_spliced (thn (h pos pins s σ H _ I hq) fun us s1 ⟨xs, H1, I1, r, z, q⟩ => ⟨by rw [← r.length]; exact z, ?_⟩)
  have hf : H1 s1.heap.objs.size = none := I1.hok.fresh (Nat.le_refl _)
  refine ⟨.ref s1.heap.objs.size, upd H1 s1.heap.objs.size (.lst xs), I1.laid (t' := s1.toks) (fun b u e => Heap.get?_push_of_some _ e) (Nat.le_refl _) ?_, rfl, q _ hf⟩
  exact ⟨z, us, 0, r, Heap.get?_push_size _ rfl⟩
end

/-- a def's promise: the bound arguments in the parameters' order, the heap, the wanted end, the wanted exception -/
abbrev Sp := List V → Hp → VK → XK → Prop
/-- how an exception lies behind a call (file 08 gives it): the callers' frames, abstract heap and state ahead of the call, the wish, the exception, the state -/
abbrev CXT := List Env → Hp → Shared → XK → Value → Shared → Prop

/-- the state at a call -/
structure Env0 (P : Program) (w : World) (K : PySem.W.Frag) (mg : Str → Option Value) (base : Heap) (A : Around) (outer : List Env) (s : Shared) (H : Hp) : Prop where
  frames : A.frames = some outer
  mod : Mod K mg base
  bs : ∀ b o, base.get? b = some o → s.heap.get? b = some o ∧ H b = none
  bsz : base.objs.size ≤ s.heap.objs.size
  funs : s.heap.FunFrames base outer
  frf : ∀ b ∈ frs outer, H b = none
  hok : HOk P w H s.heap
  bare : AllBare s.gens
/-- a call's end -/
def CE (outer : List Env) (P : Program) (w : World) (H : Hp) (s : Shared) (Q : VK) (u : Value) (s' : Shared) : Prop :=
  ∃ v H', s'.os = s.os ∧ AllBare s'.gens ∧ Un (frs outer) [] H H' s.heap s'.heap ∧ HOk P w H' s'.heap ∧ RelV v u ∧ Q v H'
def CR (CX : CXT) (outer : List Env) (P : Program) (w : World) (H : Hp) (s : Shared) (Q : VK) (E : XK) (r : Result) (s' : Shared) : Prop :=
  match r with
  | .ok (.ret u) => CE outer P w H s Q u s'
  | .ok _ => False
  | .error e => CX outer H s E e s'
structure FnOk (P : Program) (w : World) (K : PySem.W.Frag) (mg : Str → Option Value) (base : Heap) (CX : CXT) (k : Nat) (f : Addr) (fd : FuncData) (ps : List Str) (sp : Sp) : Prop where
  len : ∀ vs H Q E, sp vs H Q E → vs.length = ps.length
  run : ∀ (A : Around) (outer : List Env) (s : Shared) (H : Hp) (args : Args) (us : List Value) (vs : List V) (Q : VK) (E : XK), Room k A → Env0 P w K mg base A outer s H → BindsTo s fd args (ps.zip us) → Vals vs us → sp vs H Q E →
    codeAny (model P w) A (.call (.ref f) args) (CR CX outer P w H s Q E) s
theorem FnOk.mono {P : Program} {w : World} {K : PySem.W.Frag} {mg : Str → Option Value} {base : Heap} {CX : CXT} {j k : Nat} {f : Addr} {fd : FuncData} {ps : List Str} {sp : Sp} (F : FnOk P w K mg base CX j f fd ps sp) (h : j ≤ k) :
    FnOk P w K mg base CX k f fd ps sp := ⟨F.len, fun A outer s H args us vs Q E hr => F.run A outer s H args us vs Q E (hr.mono h)⟩
/-- a weaker promise -/
theorem FnOk.imp {P : Program} {w : World} {K : PySem.W.Frag} {mg : Str → Option Value} {base : Heap} {CX : CXT} {k : Nat} {f : Addr} {fd : FuncData} {ps : List Str} {sp sp' : Sp} (F : FnOk P w K mg base CX k f fd ps sp)
    (h : ∀ vs H Q E, sp' vs H Q E → sp vs H Q E) : FnOk P w K mg base CX k f fd ps sp' :=
  ⟨fun vs H Q E q => F.len vs H Q E (h _ _ _ _ q), fun A outer s H args us vs Q E hr he hb hv hs => F.run A outer s H args us vs Q E hr he hb hv (h _ _ _ _ hs)⟩

theorem Env0.in1 {P : Program} {w : World} {K : PySem.W.Frag} {mg : Str → Option Value} {base : Heap} {A : Around} {outer : List Env} {s : Shared} {H : Hp} (e : Env0 P w K mg base A outer s H) :
    Env0 P w K mg base A.in1 outer s H := ⟨e.frames, e.mod, e.bs, e.bsz, e.funs, e.frf, e.hok, e.bare⟩

section
variable {X : Cx} {pins : List (Addr × Obj)} {σ : St} {H : Hp} {s s' : Shared}
/-- from a body: what a callee wants -/
theorem Inv.env0 (I : Inv X pins σ H s) : Env0 X.prog X.w X.K X.mg X.base X.A X.stack s H :=
  ⟨I.ok.frames, I.ok.mod, I.bs, Nat.le_trans I.ok.bsz I.sz, I.stack, I.stkFree, I.hok, I.bare⟩
/-- behind a call -/
theorem Inv.after {Q : VK} {u : Value} (I : Inv X pins σ H s) (h : CE X.stack X.prog X.w H s Q u s') : EP X pins σ Q u s' := by
  obtain ⟨v, H', os, bare, un, hok, r, q⟩ := h
  obtain ⟨hh, g, d, t, os'⟩ := s'
  obtain rfl : os' = s.os := os
  exact ⟨v, H', I.call (h' := hh) (g' := g) (d' := d) (t' := t) (ch := []) un hok bare (fun b z => absurd z (by simp)), r, q⟩
end

/-- f(..): the written arguments, then the defaults dvs; E: what is wanted of an exception -/
def tCall (sp : Sp) (dvs : List V) (E : XK) (t : TA) : TE := fun σ H Q => t σ H fun vs H1 => sp (vs ++ dvs) H1 Q E
/-- o.m(..) of an instance of the class at C -/
def tMeth (C : Addr) (m : Str) (sp : Sp) (dvs : List V) (E : XK) (ta : TE) (t : TA) : TE := fun σ H Q => ta σ H fun x H1 => ∃ a dx fs, x = .ref a ∧ H1 a = some (.ins C dx fs) ∧ fs.lookup m = none ∧
  t σ H1 fun vs H2 => sp (x :: (vs ++ dvs)) H2 Q E
/-- C(..): a new instance and its dict, then __init__ -/
def tMake (C : Addr) (sp : Sp) (dvs : List V) (E : XK) (t : TA) : TE := fun σ H Q => t σ H fun vs H1 => ∀ x dx, H1 x = none → H1 dx = none → dx ≠ x →
  sp (.ref x :: (vs ++ dvs)) (upd (upd H1 dx (.own x)) x (.ins C dx [])) (fun v H2 => v = .non ∧ Q (.ref x) H2) E

/-- how the parameters are bound: us the positional arguments, kw the keywords' values by name, ds the defaults that fill up -/
def Binds (K : PySem.W.Frag) (fd : FuncData) (ps : List Str) (ds : List Value) : Prop :=
  ∀ (s : Shared) (us : List Value), K.In s.heap → (us ++ ds).length = ps.length → BindsTo s fd ⟨us, []⟩ (ps.zip (us ++ ds))
/-- every parameter is given -/
theorem Binds.all {K : PySem.W.Frag} {fd : FuncData} {ps : List Str} (h : ∀ us : List Value, us.length = ps.length → bindArgs fd ⟨us, []⟩ = pure (ps.zip us)) : Binds K fd ps [] := fun s us _ hl => by
  rw [List.append_nil] at hl ⊢
  exact .of_eq (h us hl)

/-- an exception of a callee reaches what this body wants of exceptions -/
def Passes (CX : CXT) (X : Cx) (E : XK) : Prop := ∀ (pins : List (Addr × Obj)) (σ : St) (H : Hp) (s : Shared) (e : Value) (s' : Shared), Inv X pins σ H s → CX X.stack H s E e s' → X.xe e s'

section
variable {X : Cx} {CX : CXT} {k : Nat} {f C : Addr} {fd : FuncData} {ps : List Str} {sp : Sp} {dvs : List V} {ds : List Value} {E : XK} {x m : Str} {p pos apos : Pos} {e o : Expr} {es : List Expr} {ta : TE} {t : TA}

/-- the callee runs -/
theorem run_fn {pins : List (Addr × Obj)} {σ : St} {H : Hp} {s : Shared} {Q : VK} {us : List Value} {vs : List V} (F : FnOk X.prog X.w X.K X.mg X.base CX k f fd ps sp) (hr : Room k X.A) (hb : Binds X.K fd ps ds) (hd : Vals dvs ds) (hx : Passes CX X E)
    (I : Inv X pins σ H s) (r : Vals vs us) (h : sp (vs ++ dvs) H Q E) : wpAny (model X.prog X.w) X.A (call (.ref f) us) (EP X pins σ Q) X.xe s := by
  have r2 : Vals (vs ++ dvs) (us ++ ds) := r.append hd
  have hl : (us ++ ds).length = ps.length := by rw [← r2.length]; exact F.len _ _ _ _ h
  refine wpAny_call (codeAny_mono (F.run X.A X.stack s H ⟨us, []⟩ (us ++ ds) (vs ++ dvs) Q E hr I.env0 (hb s us I.kIn hl) r2 h) fun r s' hq => ?_)
  cases r with
  | error e => exact hx pins σ H s e s' I hq
  | ok fl =>
    cases fl with
    | ret u => exact I.after hq
    | next => exact False.elim hq
    | brk => exact False.elim hq
    | cont => exact False.elim hq

theorem pe_call (F : FnOk X.prog X.w X.K X.mg X.base CX k f fd ps sp) (hr : Room k X.A) (hg : Gl X x) (hm : X.mg x = some (.ref f)) (hk : PySem.W.keepIn X.K (.ref f) = true) (hb : Binds X.K fd ps ds) (hd : Vals dvs ds) (hx : Passes CX X E)
    (ha : PA X (e :: es) t) (hdb : (x == ("__debug__" : Str)) = false := by decide) (he : starEach (e :: es) X.env = (false, eval e X.env) :: starEach es X.env := by rfl) (hpl : (backTo pos (starEach es X.env)).any (·.1) = false := by rfl) :
    PE X (.Call (.Name x p) (e :: es) [] pos) (tCall sp dvs E t) := by
  intro pins s σ H Q I h
  refine wpAny_Call_Name_kw (ld_glob I hg hm ?_ hdb)
  refine PySem.W.callWith_K (h₀ := X.base) I.ok.mod.kin hk (thn (ha pos pins s σ H _ I h) fun us s1 ⟨vs, H1, I1, r, q⟩ => ⟨I1.kIn, ?_⟩) he hpl
  exact run_fn F hr hb hd hx I1 r q
end

section
variable {X : Cx} {CX : CXT} {k : Nat} {f C : Addr} {fd : FuncData} {ps ks : List Str} {sp : Sp} {E : XK} {x m : Str} {p pos apos kpos : Pos} {e o : Expr} {es : List Expr} {kws : List Keyword} {te ta : TE} {t tk : TA} {nm : Option Str}
variable {g : List Value → List Value → List Value} {gV : List V → List V → List V}
end

/-- names: the parameters first -/
structure FnScope (N P : List Str) (sc : Scope) : Prop where
  kind : sc.kind = .function
  co : sc.isCoroutine = false
  gen : sc.isGenerator = false
  nd : N.Nodup
  pre : N.take P.length = P
  par : ∀ x ∈ P, sc.names.lookup x = some .local ∨ sc.names.lookup x = some .cell
  nofree : ∀ y ∈ sc.names, y.2 ≠ .free

theorem bindL_out {kindOf : Str → Option NameKind} {x : Str} : ∀ {binds : List (Str × Value)} {m : Str → Option Value}, (∀ v, (x, v) ∉ binds) → bindL kindOf binds m x = m x
  | [], _, _ => rfl
  | (n, v) :: r, m, h => by
    unfold bindL
    rw [bindL_out fun w hw => h w (List.mem_cons_of_mem _ hw)]
    split
    · have : x ≠ n := by rintro rfl; exact h v List.mem_cons_self
      simp [this]
    · rfl
theorem bindC_out {kindOf : Str → Option NameKind} {x : Str} : ∀ {binds : List (Str × Value)} {m : Str → Option Value}, (∀ v, (x, v) ∉ binds) → bindC kindOf binds m x = m x
  | [], _, _ => rfl
  | (n, v) :: r, m, h => by
    unfold bindC
    rw [bindC_out fun w hw => h w (List.mem_cons_of_mem _ hw)]
    split
    · rfl
    · have : x ≠ n := by rintro rfl; exact h v List.mem_cons_self
      simp [this]
theorem bindL_get {kindOf : Str → Option NameKind} {x : Str} {v : Value} : ∀ {P : List Str} {vs : List Value} {i : Nat} {m : Str → Option Value}, P.Nodup → P[i]? = some x → vs[i]? = some v → kindOf x = some .local →
    bindL kindOf (P.zip vs) m x = some v
  | [], _, _, _, _, h, _, _ => by simp at h
  | _ :: _, [], _, _, _, _, h, _ => by simp at h
  | p :: P, w :: vs, 0, m, nd, h1, h2, hk => by
    simp at h1 h2; subst h1; subst h2
    show bindL kindOf ((p, w) :: P.zip vs) m p = _
    unfold bindL
    rw [bindL_out fun v hv => (List.nodup_cons.mp nd).1 (List.of_mem_zip hv).1, if_pos hk]
    simp
  | p :: P, w :: vs, i + 1, m, nd, h1, h2, hk => by
    show bindL kindOf ((p, w) :: P.zip vs) m x = _
    unfold bindL
    exact bindL_get (i := i) (List.nodup_cons.mp nd).2 (by simpa using h1) (by simpa using h2) hk
theorem bindC_get {kindOf : Str → Option NameKind} {x : Str} {v : Value} : ∀ {P : List Str} {vs : List Value} {i : Nat} {m : Str → Option Value}, P.Nodup → P[i]? = some x → vs[i]? = some v → kindOf x ≠ some .local →
    bindC kindOf (P.zip vs) m x = some v
  | [], _, _, _, _, h, _, _ => by simp at h
  | _ :: _, [], _, _, _, _, h, _ => by simp at h
  | p :: P, w :: vs, 0, m, nd, h1, h2, hk => by
    simp at h1 h2; subst h1; subst h2
    show bindC kindOf ((p, w) :: P.zip vs) m p = _
    unfold bindC
    rw [bindC_out fun v hv => (List.nodup_cons.mp nd).1 (List.of_mem_zip hv).1, if_neg hk]
    simp
  | p :: P, w :: vs, i + 1, m, nd, h1, h2, hk => by
    show bindC kindOf ((p, w) :: P.zip vs) m x = _
    unfold bindC
    exact bindC_get (i := i) (List.nodup_cons.mp nd).2 (by simpa using h1) (by simpa using h2) hk

/-- the names' values at the entry -/
def start (N : List Str) (vs : List V) : St := vs.map some ++ List.replicate (N.length - vs.length) none

/-- the context of a def's body, at its entry; an exception leaves the frame, then lies as CX says -/
def cxOf (CX : CXT) (P : Program) (w : World) (K : PySem.W.Frag) (mg : Str → Option Value) (base : Heap) (N : List Str) (qual : Str) (scope : Scope) (f : Addr) (cd : Value) (A : Around) (outer : List Env) (s : Shared) (H : Hp) (E : XK) : Cx where
  prog := P
  w := w
  K := K
  mg := mg
  base := base
  A := A.deeper (envOfC qual scope s.heap.objs.size f cd)
  N := N
  s₀ := s
  H₀ := H
  env := envOfC qual scope s.heap.objs.size f cd
  outer := outer
  stack := envOfC qual scope s.heap.objs.size f cd :: outer
  ex := []
  calm := true
  fn := fun _ => true
  pn := []
  xe := fun e s' => wpAny (model P w) (A.deeper (envOfC qual scope s.heap.objs.size f cd)) (leaving (envOfC qual scope s.heap.objs.size f cd) e) (fun _ s'' => CX outer H s E e s'') (fun e' s'' => CX outer H s E e' s'') s'

theorem cell_has {sc : Scope} {n : Nat} {x : Str} (h : sc.names.lookup x = some .cell) : ∃ c, (cellsFrom n sc.names []).lookup x = some c := by
  have q := PySem.W.cellsFrom_some sc.names n [] (.inl h)
  exact Option.isSome_iff_exists.mp q

theorem inv_start {CX : CXT} {P : Program} {w : World} {K : PySem.W.Frag} {mg : Str → Option Value} {base : Heap} {N ps : List Str} {qual : Str} {scope : Scope} {f : Addr} {cd : Value} {A : Around} {outer : List Env} {s s1 : Shared} {H : Hp} {E : XK} {us : List Value} {vs : List V}
    (S : FnScope N ps scope) (hd : A.handled = none) (e0 : Env0 P w K mg base A outer s H) (hl : vs.length = ps.length) (r : Vals vs us)
    (x : InCallC s s.heap.objs.size (bindL (envOfC qual scope s.heap.objs.size f cd).kindOf (ps.zip us) fun _ => none) (cellsFrom (s.heap.objs.size + 1) scope.names []) (bindC (envOfC qual scope s.heap.objs.size f cd).kindOf (ps.zip us) fun _ => none) s1) :
    Inv (cxOf CX P w K mg base N qual scope f cd A outer s H E) [] (start N vs) H s1 := by
  have hpl : ps.length ≤ N.length := by have := congrArg List.length S.pre; rw [List.length_take] at this; omega
  obtain ⟨h1, tk, rfl, hk⟩ := x.done
  have noA : ∀ b : Addr, b ∉ (cxOf CX P w K mg base N qual scope f cd A outer s H E).ex := fun b z => absurd (show b ∈ ([] : List Addr) from z) (by simp)
  refine ⟨⟨e0.mod, S.kind, rfl, rfl, Nat.le_refl _, fun y z c h1 h2 => ?_, fun y hy => ?_, fun y c _ h => ?_, fun _ => hd, Around.frames_deeper e0.frames, .inr ⟨rfl, rfl⟩, fun b z => absurd z (noA b), e0.bs, e0.bsz, fun b _ _ => noA b, fun b z => absurd z (noA b), e0.funs, e0.frf⟩,
    rfl, e0.bare, Un.kept hk, ⟨_, x.toInCall.ns, fun i y v h1 h2 h3 => ?_⟩, fun y c h => ⟨_, x.cell y c h⟩, e0.hok.fresh (Nat.le_refl _), fun y c h => ?_, fun p hp => absurd (show p ∈ ([] : List (Addr × Obj)) from hp) (by simp), e0.hok.kept hk, ?_⟩
  · exact name_of_addr x.apart (PySem.mem_of_lookup h1) (PySem.mem_of_lookup h2)
  · have hy : scope.names.lookup y = some .cell ∨ scope.names.lookup y = some .free := hy
    rcases hy with hy | hy
    · exact cell_has hy
    · exact absurd rfl (S.nofree _ (PySem.mem_of_lookup hy))
  · exact Nat.le_of_lt (x.above y c (PySem.mem_of_lookup h))
  · have hi : i < vs.length := by
      unfold start at h2
      by_cases hi : i < vs.length
      · exact hi
      · rw [List.getElem?_append_right (by simpa using hi)] at h2
        rw [List.getElem?_replicate] at h2
        split at h2 <;> cases h2
    have ha : vs[i]? = some v := by
      unfold start at h2
      rw [List.getElem?_append_left (by simpa using hi), List.getElem?_map] at h2
      cases e : vs[i]? with
      | none => rw [e] at h2; cases h2
      | some a => rw [e] at h2; cases h2; rfl
    obtain ⟨u, hu, rv⟩ := r.get ha
    have hp : ps[i]? = some y := by
      rw [← S.pre, List.getElem?_take_of_lt (by omega)]; exact h1
    have ndP : ps.Nodup := by rw [← S.pre]; exact S.nd.sublist (List.take_sublist _ _)
    refine ⟨u, rv, ?_⟩
    rcases S.par y (List.mem_of_getElem? hp) with k | k
    · exact .inl ⟨k, bindL_get ndP hp hu k⟩
    · obtain ⟨c, e⟩ := cell_has (n := s.heap.objs.size + 1) k
      refine .inr ⟨.inl k, c, e, ?_⟩
      have q := x.cell y c e
      rw [bindC_get ndP hp hu (by show scope.names.lookup y ≠ _; rw [k]; decide)] at q
      exact q
  · exact e0.hok.fresh (Nat.le_of_lt (x.above y c (PySem.mem_of_lookup h)))
  · unfold start
    show _ = N.length
    rw [List.length_append, List.length_map, List.length_replicate]
    omega

/-- THE RULE: a def (or a method) of the text, by its body. The body's reading t is chosen for each entry; it is run at the parameters' values -/
theorem fn_of {CX : CXT} {P : Program} {w : World} {K : PySem.W.Frag} {mg : Str → Option Value} {base : Heap} {k : Nat} {f : Addr} {name qual : Str} {params : Arguments} {body : List Stmt} {scope : Scope} {dV kV doc pm cdv ct oc : Value} {an od : Option Addr}
    {osl : Array (Option Value)} {N ps : List Str} {sp : Sp} (lk : K.lookup f = some ⟨oc, od, .func (PySem.W.fnOf name qual params body scope dV kV doc pm an cdv ct), osl⟩) (hcd : PySem.W.codeIn K cdv qual = true) (S : FnScope N ps scope)
    (len : ∀ vs H Q E, sp vs H Q E → vs.length = ps.length)
    (hbody : ∀ (A : Around) (outer : List Env) (s : Shared) (H : Hp) (vs : List V) (Q : VK) (E : XK), Room k (A.deeper (envOfC qual scope s.heap.objs.size f cdv)) → sp vs H Q E →
      ∃ t, PSs (cxOf CX P w K mg base N qual scope f cdv A outer s H E) body t ∧ t { nx := fun _ H' => Q .non H', rt := Q } (start N vs) H) :
    FnOk P w K mg base CX (k + 1) f (PySem.W.fnOf name qual params body scope dV kV doc pm an cdv ct) ps sp := by
  refine ⟨len, fun A outer s H args us vs Q E hr e0 hb r hsp => ?_⟩
  have hl := len _ _ _ _ hsp
  have KX : K.In s.heap := e0.mod.kin.keeps fun b o e => (e0.bs b o e).1
  have lim : s.heap.NoLimit := e0.mod.nolimit.keeps fun b o e => (e0.bs b o e).1
  have hkind : ∀ y ∈ ps.zip us, scope.names.lookup y.1 = some .local ∨ (scope.names.lookup y.1 = some .cell ∧ ((cellsFrom (s.heap.objs.size + 1) scope.names []).lookup y.1).isSome = true) := fun ⟨n, v⟩ hy => by
    rcases S.par n (List.of_mem_zip hy).1 with q | q
    · exact .inl q
    · exact .inr ⟨q, PySem.W.cellsFrom_some _ _ _ (.inl q)⟩
  refine codeAny_call_function hr.depth (KX _ _ lk) rfl S.co S.gen rfl (PySem.W.codeRec_of KX hcd) (hb _ _ _ _ ?_)
  refine wpAny_newFunctionEnv_cells S.kind hkind fun env he s1 x => ?_
  subst he
  refine ⟨lim.keeps x.toInCall.keep, codeAny_func ?_⟩
  obtain ⟨t, ht, hq⟩ := hbody A outer s H vs Q E (hr.deeper _) hsp
  have I : Inv (cxOf CX P w K mg base N qual scope f cdv A outer s H E) [] (start N vs) H s1 := inv_start S hr.hd e0 hl r x
  refine wpAny_mono (ht [] s1 (start N vs) H _ I hq) (fun fl s' hs => ?_) fun e s' hs => hs
  have fin : ∀ {σ' : St} {H' : Hp} {v : V} {u : Value}, Inv (cxOf CX P w K mg base N qual scope f cdv A outer s H E) [] σ' H' s' → RelV v u → Q v H' → CE outer P w H s Q u s' :=
    fun {σ' H' v u} J rv q => ⟨v, H', J.os, J.bare, J.base, J.hok, rv, q⟩
  cases fl with
  | ret u =>
    obtain ⟨v, σ', H', J, rv, q⟩ := hs
    exact fin J rv q
  | next =>
    obtain ⟨σ', H', J, q⟩ := hs
    exact fin (v := V.non) (u := Value.none) J rfl q
  | brk =>
    obtain ⟨_, _, _, q⟩ := hs
    exact False.elim q
  | cont =>
    obtain ⟨_, _, _, q⟩ := hs
    exact False.elim q
end L2

namespace L2
open PySem PySem.Spec PyProof.Rows
section
variable {X : Cx} {x : Str} {p pos : Pos} {e : Expr} {es : List Expr} {t : TA} {id T : String} {r : List V → Hp → VK → Prop}

def tCB (r : List V → Hp → VK → Prop) (t : TA) : TE := fun σ H Q => t σ H fun vs H1 => r vs H1 Q
/-- f(e, ..), f a built-in function -/
theorem pe_callB (hc : CallR X (.builtin id) r) (hg : Gl X x) (hm : X.mg x = none) (hv : bootBuiltins x = some (.builtin id)) (ha : PA X (e :: es) t) (hn : x ≠ "__name__" := by decide) (hdb : (x == ("__debug__" : Str)) = false := by decide)
    (he : starEach (e :: es) X.env = (false, eval e X.env) :: starEach es X.env := by rfl) (hpl : (backTo pos (starEach es X.env)).any (·.1) = false := by rfl) : PE X (.Call (.Name x p) (e :: es) [] pos) (tCB r t) := by
  intro pins s σ H Q I h
  refine wpAny_Call_Name_kw (ld_blt I hg hm hv ?_ hn hdb)
  exact PyProof.Rows.callWith_builtin1 (thn (ha pos pins s σ H _ I h) fun us s1 ⟨vs, H1, I1, r1, q1⟩ => hc pins s1 σ H1 vs us Q I1 r1 q1) he hpl
/-- T(e, ..), T a built-in type -/
theorem pe_callTy (hc : CallR X (.type T) r) (hg : Gl X x) (hm : X.mg x = none) (hv : bootBuiltins x = some (.type T)) (ha : PA X (e :: es) t) (hn : x ≠ "__name__" := by decide) (hdb : (x == ("__debug__" : Str)) = false := by decide)
    (he : starEach (e :: es) X.env = (false, eval e X.env) :: starEach es X.env := by rfl) (hpl : (backTo pos (starEach es X.env)).any (·.1) = false := by rfl) : PE X (.Call (.Name x p) (e :: es) [] pos) (tCB r t) := by
  intro pins s σ H Q I h
  refine wpAny_Call_Name_kw (ld_blt I hg hm hv ?_ hn hdb)
  exact PyProof.Rows.callWith_type1 (thn (ha pos pins s σ H _ I h) fun us s1 ⟨vs, H1, I1, r1, q1⟩ => hc pins s1 σ H1 vs us Q I1 r1 q1) he hpl
end
end L2

namespace HT
open PySem PyProof.Rows

section
open PySem.SeqAt
open PySem.AutoSeq1 (wpAny_loadPart')
open PySem.MeetsSeq PySem.MeetsSeq2 PySem.MeetsSeq3

end

section
variable {prog : Program} {w : World} {A : Around} {E : Value → Shared → Prop} {s : Shared}

/-- t + u, t not empty -/
theorem cat_tup {t b : Addr} {vs ws : List Value} {Q : Value → Shared → Prop} (ht : IsTup s.heap t vs.toArray) (hb : IsTup s.heap b ws.toArray) (hv : vs ≠ [])
    (h1 : ws = [] → Q (.ref t) s) (h2 : ws ≠ [] → Q (.ref s.heap.objs.size) { s with heap := s.heap.push { cls := .type "tuple", data := .seq (vs ++ ws).toArray } })
    (hsz : vs.length + ws.length ≤ sizeLine) : wpAny (model prog w) A (binaryOp .Add (.ref t) (.ref b)) Q E s := by
  obtain ⟨⟨cls, dd, data, sl⟩, ho, hc, n, hd⟩ := id ht
  obtain ⟨⟨cls2, dd2, data2, sl2⟩, ho2, hc2, n2, hd2⟩ := id hb
  simp only at hc hd hc2 hd2
  subst hc hd hc2 hd2
  have e : vs.toArray ++ ws.toArray = (vs ++ ws).toArray := by simp
  by_cases hw : ws = []
  · exact concat_meets ⟨_, ho, rfl⟩ ⟨_, ho2, rfl⟩ noFill_tuple_add seq_tuple_add PySem.F.slot_tuple_add PySem.F.entry_tuple_add (PySem.F.args_tuple_add_2 _ _)
      (tuple_addW1 t b vs.toArray ws.toArray n n2 dd dd2 sl sl2 (by simpa using hv) (by simp [hw])) ⟨ho, ho2, h1 hw⟩
  · refine concat_meets ⟨_, ho, rfl⟩ ⟨_, ho2, rfl⟩ noFill_tuple_add seq_tuple_add PySem.F.slot_tuple_add PySem.F.entry_tuple_add (PySem.F.args_tuple_add_2 _ _)
      (tuple_addW2 t b vs.toArray ws.toArray n n2 dd dd2 sl sl2 (by simpa using hv) (by simpa using hw) (by rw [List.size_toArray, List.size_toArray]; exact hsz)) ⟨ho, ho2, ?_⟩
    rw [e]
    exact h2 hw

/-- a slice's bound as a place among n (d where it is left out) -/
def sIx (n d : Nat) : Option Int → Nat
  | none => d
  | some v => if v < 0 then (v + (n : Int)).toNat else min v.toNat n
theorem sIx_nat (n d k : Nat) : sIx n d (some (k : Int)) = min k n := by
  show (if (k : Int) < 0 then ((k : Int) + (n : Int)).toNat else min (k : Int).toNat n) = min k n
  rw [if_neg (by omega), Int.toNat_natCast]
theorem sIx_le (n d : Nat) (hd : d ≤ n) (o : Option Int) : sIx n d o ≤ n := by
  cases o with
  | none => exact hd
  | some v =>
    show (if v < 0 then (v + (n : Int)).toNat else min v.toNat n) ≤ n
    by_cases hv : v < 0
    · rw [if_pos hv]; omega
    · rw [if_neg hv]; exact Nat.min_le_right _ _
theorem clip_eq (v : Int) (n d : Nat) : (if v < 0 then max (v + (n : Int)) 0 else min v (n : Int)) = ((sIx n d (some v) : Nat) : Int) := by
  show (if v < 0 then max (v + (n : Int)) 0 else min v (n : Int)) = (((if v < 0 then (v + (n : Int)).toNat else min v.toNat n) : Nat) : Int)
  by_cases hv : v < 0
  · simp only [if_pos hv]; omega
  · simp only [if_neg hv]; omega
theorem adjust_gen (lo hi : Option Int) (n : Nat) : Builtin.Slice.sliceAdjust lo hi 1 (n : Int) = (((sIx n 0 lo : Nat) : Int), ((sIx n n hi : Nat) : Int)) := by
  have h1 : ¬ ((1 : Int) < 0) := by omega
  unfold Builtin.Slice.sliceAdjust
  simp only [h1, if_false]
  refine Prod.ext ?_ ?_
  · cases lo with
    | none => rfl
    | some v => exact clip_eq v n 0
  · cases hi with
    | none => rfl
    | some v => exact clip_eq v n n
theorem places_gen (i j : Nat) : Builtin.Slice.slicePlaces (i : Int) (j : Int) 1 = j - i := by
  unfold Builtin.Slice.slicePlaces
  have h1 : (1 : Int) > 0 := by omega
  simp only [h1, if_true, Int.ediv_one]
  split <;> omega
theorem slicePart_ {v : Value} {o : Option Int} {Q : Option Int → Shared → Prop} (p : IsPart v o) (h : Q o s) : wpAny (model prog w) A (Builtin.Slice.slicePartIndex v) Q E s := by
  cases p with
  | none => exact slicePart_none h
  | int i t => exact slicePart_int h
theorem sliceApplied_gen {sl : Addr} {vl vu : Value} {lo hi : Option Int} {n : Nat} {Q : Int × Int × Nat → Shared → Prop} (hs : s.heap.IsSliceOf sl vl vu .none) (pl : IsPart vl lo) (pu : IsPart vu hi)
    (h : Q (((sIx n 0 lo : Nat) : Int), 1, sIx n n hi - sIx n 0 lo) s) : wpAny (model prog w) A (Builtin.Slice.sliceApplied (.ref sl) (pure (n : Int))) Q E s := by
  obtain ⟨os, hos, hcs, hds⟩ := id hs
  unfold Builtin.Slice.sliceApplied Builtin.Slice.sliceFields
  refine wpAny_bind (wpAny_bind (wpAny_field hos hds (x := vl) rfl (wpAny_bind (wpAny_field hos hds (x := vu) rfl (wpAny_bind (wpAny_field hos hds (x := .none) rfl (wpAny_pure ?_)))))))
  refine wpAny_bind (slicePart_none ?_)
  show wpAny _ _ (if ((1 : Int) == 0) = true then _ else _) _ _ s
  rw [if_neg (by decide)]
  refine wpAny_bind (slicePart_ pl (wpAny_bind (slicePart_ pu (wpAny_bind (wpAny_pure ?_)))))
  show wpAny _ _ (match Builtin.Slice.sliceAdjust lo hi 1 (n : Int) with | (lo, hi) => pure (lo, (1 : Int), Builtin.Slice.slicePlaces lo hi 1)) _ _ s
  rw [adjust_gen lo hi n]
  show wpAny _ _ (pure (((sIx n 0 lo : Nat) : Int), (1 : Int), Builtin.Slice.slicePlaces ((sIx n 0 lo : Nat) : Int) ((sIx n n hi : Nat) : Int) 1)) _ _ s
  rw [places_gen]
  exact wpAny_pure h
theorem pick_gen (xs : Array Value) (i k : Nat) : ((List.range k).filterMap fun (m : Nat) => xs[((i : Int) + (m : Int) * 1).toNat]?).toArray = ((xs.toList.drop i).take k).toArray := by
  have e : (fun (m : Nat) => xs[((i : Int) + (m : Int) * 1).toNat]?) = fun m => xs[i + m]? := by
    funext m
    have : ((i : Int) + (m : Int) * 1).toNat = i + m := by omega
    rw [this]
  rw [e]
  have := pick_run xs i k
  rw [List.filterMap_map] at this
  have e2 : ((fun x => xs[x]?) ∘ fun x => i + x) = fun m => xs[i + m]? := rfl
  rw [e2] at this
  rw [this]

theorem getItem_tuple_cut {t sl : Addr} {items : Array Value} {vl vu : Value} {lo hi : Option Int} {Q : Value → Shared → Prop} (ht : IsTup s.heap t items) (hs : s.heap.IsSliceOf sl vl vu .none) (pl : IsPart vl lo) (pu : IsPart vu hi)
    (hw : ¬ (sIx items.size 0 lo = 0 ∧ sIx items.size items.size hi = items.size))
    (h : Q (.ref s.heap.objs.size) { s with heap := s.heap.push { cls := .type "tuple", data := .seq ((items.toList.drop (sIx items.size 0 lo)).take (sIx items.size items.size hi - sIx items.size 0 lo)).toArray } })
    (hsz : items.size ≤ sizeLine) : wpAny (model prog w) A (getItem (.ref t) (.ref sl)) Q E s := by
  have htake : sizeOk (.seq ((items.toList.drop (sIx items.size 0 lo)).take (sIx items.size items.size hi - sIx items.size 0 lo)).toArray) := by
    show ((items.toList.drop (sIx items.size 0 lo)).take (sIx items.size items.size hi - sIx items.size 0 lo)).toArray.size ≤ sizeLine
    rw [List.size_toArray, List.length_take, List.length_drop, Array.length_toList]
    omega
  have hj : sIx items.size items.size hi ≤ items.size := sIx_le _ _ (Nat.le_refl _) hi
  obtain ⟨os, hos, hcs, hds⟩ := id hs
  have hTs : s.TypeIs (.ref sl) "slice" := ⟨os, hos, hcs⟩
  unfold getItem
  try with_reducible refine wpAny_holding ?_
  first | refine wpAny_bind (wpAny_pure ?_) | skip
  refine wpAny_bind (wpAny_sequenceKey ht.typeIs (by decide) ?_)
  refine wpAny_bind (wpAny_callSpecial?_slot (name := Str.ofString "__getitem__") ht.typeIs PyProof.Rows.slot_tuple_getitem
    (wpAny_call_entry PyProof.Rows.slot_tuple_getitem ht.typeIs entry_tuple_getitem ?_ (args_tuple_getitem _ _)))
  show wpAny _ _ (Builtin.Tuple.tupleItemsOf (.ref t) >>= _) _ _ s
  refine wpAny_bind (tupleItemsOf_ ht ?_)
  refine wpAny_bind (wpAny_typeOf hTs ?_)
  rw [if_pos (by decide)]
  refine wpAny_bind (sliceApplied_gen hs pl pu ?_)
  have hno : ¬ ((((sIx items.size 0 lo : Nat) : Int) == 0 && (1 : Int) == 1 && (sIx items.size items.size hi - sIx items.size 0 lo) == items.size) = true) := by
    intro q
    rw [Bool.and_eq_true, Bool.and_eq_true] at q
    have q1 : ((sIx items.size 0 lo : Nat) : Int) = 0 := eq_of_beq q.1.1
    have q2 : sIx items.size items.size hi - sIx items.size 0 lo = items.size := eq_of_beq q.2
    exact hw ⟨by omega, by omega⟩
  show wpAny _ _ (if (((sIx items.size 0 lo : Nat) : Int) == 0 && (1 : Int) == 1 && (sIx items.size items.size hi - sIx items.size 0 lo) == items.size) = true then _ else _) _ _ s
  rw [if_neg hno, pick_gen]
  first
    | exact wpAny_bind (m := Builtin.Tuple.tupleExact _) (wpAny_newObj_type (wpAny_pure ⟨_, rfl, wpAny_pure h⟩) htake)
    | exact wpAny_bind (m := Builtin.Tuple.tupleExact _) (wpAny_newObj_type (wpAny_bind (wpAny_pure (wpAny_pure ⟨_, rfl, wpAny_pure h⟩))) htake)
    | exact wpAny_bind (wpAny_bind (m := Builtin.Tuple.tupleExact _) (wpAny_newObj_type (wpAny_pure (wpAny_pure ⟨_, rfl, wpAny_pure h⟩)) htake))
    | exact wpAny_bind (wpAny_bind (m := Builtin.Tuple.tupleExact _) (wpAny_newObj_type (wpAny_pure ⟨_, rfl, wpAny_pure h⟩) htake))
end
end HT

namespace L2
open PySem PySem.Spec PyProof.Rows

/-! ### the parts of a slice -/
abbrev TO := St → Hp → (Option Int → Hp → Prop) → Prop
/-- a slice's part (left out, or an int) -/
def PO (X : Cx) (e : Option Expr) (t : TO) : Prop :=
  ∀ (pins : List (Addr × Obj)) (s : Shared) (σ : St) (H : Hp) (Q : Option Int → Hp → Prop), Inv X pins σ H s → t σ H Q →
    wpAny (model X.prog X.w) X.A (evalPart e X.env) (fun u s' => ∃ o H', Inv X pins σ H' s' ∧ IsPart u o ∧ Q o H') X.xe s
def tNoPart : TO := fun _ H Q => Q none H
def tPart (t : TE) : TO := fun σ H Q => t σ H fun x H1 => ∃ i, x = .int i ∧ Q (some i) H1

section
variable {X : Cx} {e : Expr} {te : TE} {lo hi : Option Expr} {tl th : TO} {pos p2 : Pos}

theorem po_some (h : PE X e te) : PO X (some e) (tPart te) := by
  intro pins s σ H Q I hw
  rw [evalPart_some]
  refine thn (h pins s σ H _ I hw) fun u s1 ⟨x, H1, I1, r1, q1⟩ => ?_
  obtain ⟨i, rfl, q⟩ := q1
  obtain ⟨t, rfl⟩ := r1
  exact ⟨some i, H1, I1, .int i t, q⟩

/-- what a slice of a value is, by values: the slice object stands at sl -/
def SlR (X : Cx) (r : V → Option Int → Option Int → Hp → VK → Prop) : Prop :=
  ∀ (pins : List (Addr × Obj)) (s : Shared) (σ : St) (H : Hp) (x : V) (v vl vu : Value) (lo hi : Option Int) (sl : Addr) (Q : VK), Inv X pins σ H s → RelV x v → s.heap.IsSliceOf sl vl vu .none → IsPart vl lo → IsPart vu hi → r x lo hi H Q →
    ∃ T id, typeLookup (.type T) "__getitem__" = pure (some (.builtin id)) ∧ s.TypeIs v T ∧ wpAny (model X.prog X.w) X.A (getItem v (.ref sl)) (EP X pins σ Q) X.xe s
def tSl (r : V → Option Int → Option Int → Hp → VK → Prop) (te : TE) (tl th : TO) : TE := fun σ H Q => te σ H fun x H1 => tl σ H1 fun l H2 => th σ H2 fun u H3 => r x l u H3 Q
/-- a[lo:hi], any a -/
theorem pe_slice {r : V → Option Int → Option Int → Hp → VK → Prop} (hr : SlR X r) (he : PE X e te) (hl : PO X lo tl) (hu : PO X hi th) : PE X (.Subscript e (.Slice lo hi none p2) pos) (tSl r te tl th) := by
  intro pins s σ H Q I h
  refine Subscript_ (thn (he pins s σ H _ I h) fun v s1 ⟨x, H1, I1, r1, q1⟩ => ?_)
  refine wpAny_Slice (thn (hl pins s1 σ H1 _ I1 q1) fun vl s2 ⟨l, H2, I2, pl, q2⟩ => thn (hu pins s2 σ H2 _ I2 q2) fun vu s3 ⟨u, H3, I3, pu, q3⟩ => ?_)
  rw [evalPart_none]
  refine wpAny_pure ?_
  have I4 : Inv X pins σ H3 { s3 with heap := s3.heap.push { cls := .type "slice", data := .fields #[vl, vu, .none] } } := I3.kept (t' := s3.toks) fun b ob q => Heap.get?_push_of_some _ q
  obtain ⟨T, id, hT, ht, hg⟩ := hr pins { s3 with heap := s3.heap.push { cls := .type "slice", data := .fields #[vl, vu, .none] } } σ H3 x v vl vu l u s3.heap.objs.size Q I4 r1 (Heap.IsSliceOf.new ..) pl pu q3
  show wpAny (model X.prog X.w) X.A (subscriptTail e (.Slice lo hi none p2) v (.ref s3.heap.objs.size)) (EP X pins σ Q) X.xe { s3 with heap := s3.heap.push { cls := .type "slice", data := .fields #[vl, vu, .none] } }
  exact tail_any (ops := [.ref s3.heap.objs.size, v]) ht hT hg (by with_unfolding_all rfl)

/-- the items of xs[lo:hi] -/
def cutV (xs : List V) (lo hi : Option Int) : List V := (xs.drop (HT.sIx xs.length 0 lo)).take (HT.sIx xs.length xs.length hi - HT.sIx xs.length 0 lo)
theorem cutV_length (xs : List V) (lo hi : Option Int) : (cutV xs lo hi).length ≤ xs.length := by
  unfold cutV
  rw [List.length_take, List.length_drop]
  omega
/-- t[lo:hi], not the whole of it (the whole would be t itself) -/
def rSlT (K : PySem.W.Frag) : V → Option Int → Option Int → Hp → VK → Prop := fun x lo hi H Q => ∃ a xs, x = .ref a ∧ SqT K H a xs ∧
  ¬ (HT.sIx xs.length 0 lo = 0 ∧ HT.sIx xs.length xs.length hi = xs.length) ∧ ∀ p, H p = none → Q (.ref p) (upd H p (.tup (cutV xs lo hi)))
theorem sl_tup : SlR X (rSlT X.K) := by
  intro pins s σ H x v vl vu lo hi sl Q I rx hs pl pu h
  obtain ⟨a, xs, rfl, hx, hw, q⟩ := h
  cases rx
  obtain ⟨its, r, ht, hz⟩ := I.tuple hx
  have hlen : its.toArray.size = xs.length := by rw [List.size_toArray]; exact r.length.symm
  refine ⟨"tuple", _, PyProof.Rows.slot_tuple_getitem.lookup, ht.typeIs, ?_⟩
  refine HT.getItem_tuple_cut ht hs pl pu (by rw [hlen]; exact hw) ?_ (by rw [hlen]; exact hz)
  rw [hlen]
  refine ⟨.ref s.heap.objs.size, _, I.laid (t' := s.toks) (o := .tup (cutV xs lo hi)) (fun b ob q => Heap.get?_push_of_some _ q) (Nat.le_refl _) ?_, rfl, q _ (I.hok.fresh (Nat.le_refl _))⟩
  exact ⟨Nat.le_trans (cutV_length xs lo hi) hz, _, (r.drop (HT.sIx xs.length 0 lo)).take (HT.sIx xs.length xs.length hi - HT.sIx xs.length 0 lo), IsTup.new _ _⟩

/-- t + u, t not empty: u empty gives t itself -/
def rCatT (K : PySem.W.Frag) : R2 := fun x y H Q => ∃ a b xs ys, x = .ref a ∧ y = .ref b ∧ SqT K H a xs ∧ SqT K H b ys ∧ xs ≠ [] ∧ xs.length + ys.length ≤ sizeLine ∧
  (ys = [] → Q (.ref a) H) ∧ (ys ≠ [] → ∀ p, H p = none → Q (.ref p) (upd H p (.tup (xs ++ ys))))
theorem Vals.nil_iff {xs : List V} {us : List Value} (r : Vals xs us) : us = [] ↔ xs = [] := by
  cases r with
  | nil => simp
  | cons _ _ => simp
theorem op_catT : OpR X (binaryOp .Add) (rCatT X.K) := by
  intro pins s σ H x y v u Q I rx ry h
  obtain ⟨a, b, xs, ys, rfl, rfl, ha, hb, hx, hz, q1, q2⟩ := h
  cases rx
  cases ry
  obtain ⟨its, r1, p1, _⟩ := I.tuple ha
  obtain ⟨its2, r2, p2, _⟩ := I.tuple hb
  refine HT.cat_tup p1 p2 (fun z => hx (r1.nil_iff.mp z)) (fun z => ⟨.ref a, H, I, rfl, q1 (r2.nil_iff.mp z)⟩) (fun z => ?_) (by rw [← r1.length, ← r2.length]; exact hz)
  refine ⟨.ref s.heap.objs.size, _, I.laid (t' := s.toks) (o := .tup (xs ++ ys)) (fun b ob q => Heap.get?_push_of_some _ q) (Nat.le_refl _) ?_, rfl, q2 (fun w => z (r2.nil_iff.mpr w)) _ (I.hok.fresh (Nat.le_refl _))⟩
  exact ⟨by rw [List.length_append]; exact hz, _, r1.append r2, IsTup.new _ _⟩
end
end L2

namespace L2
open PySem PySem.Spec PyProof.Rows

/-- the place that an index of any sign means -/
def ixN (n : Nat) (i : Int) : Option Nat := if 0 ≤ i then (if i < n then some i.toNat else none) else if -(n : Int) ≤ i then some (i + n).toNat else none
def atI {α : Type} (xs : List α) (i : Int) : Option α := (ixN xs.length i).bind fun j => xs[j]?
theorem ixN_seq {n : Nat} {i : Int} {j : Nat} (h : ixN n i = some j) : seqIndex? i n = some j ∧ j < n ∧ -(n : Int) ≤ i ∧ i < n := by
  unfold ixN at h
  by_cases h0 : 0 ≤ i
  · rw [if_pos h0] at h
    by_cases h1 : i < n
    · rw [if_pos h1] at h
      have e : i.toNat = j := Option.some.inj h
      exact ⟨by rw [seqIndex_of h0 h1, e], by omega, by omega, h1⟩
    · rw [if_neg h1] at h; cases h
  · rw [if_neg h0] at h
    by_cases h1 : -(n : Int) ≤ i
    · rw [if_pos h1] at h
      have e : (i + n).toNat = j := Option.some.inj h
      exact ⟨by rw [seqIndex_neg (by omega) h1, e], by omega, h1, by omega⟩
    · rw [if_neg h1] at h; cases h
theorem atI_get {α : Type} {xs : List α} {i : Int} {v : α} (h : atI xs i = some v) : ∃ j, seqIndex? i xs.length = some j ∧ xs[j]? = some v ∧ j < xs.length ∧ -(xs.length : Int) ≤ i ∧ i < xs.length := by
  unfold atI at h
  cases e : ixN xs.length i with
  | none => rw [e] at h; cases h
  | some j =>
    rw [e] at h
    obtain ⟨h1, h2, h3, h4⟩ := ixN_seq e
    exact ⟨j, h1, h, h2, h3, h4⟩
theorem atI_nat {α : Type} {xs : List α} {j : Nat} {v : α} (h : xs[j]? = some v) : atI xs (j : Int) = some v := by
  have hj : j < xs.length := (List.getElem?_eq_some_iff.mp h).1
  have e : ixN xs.length (j : Int) = some j := by
    unfold ixN
    rw [if_pos (by omega), if_pos (by omega)]; simp
  unfold atI; rw [e]; exact h
/-- what stands as an index of a plain subscript -/
def PlainIx (b : Expr) : Prop := ∀ o i, subscripted b false o i = operate [o, i] (getItem o i)
/-- a subscript by values -/
def IxR (X : Cx) (r : R2) : Prop :=
  ∀ (value slice : Expr) (pins : List (Addr × Obj)) (s : Shared) (σ : St) (H : Hp) (x y : V) (v u : Value) (Q : VK), Inv X pins σ H s → RelV x v → RelV y u → r x y H Q →
    subscripted slice false v u = operate [v, u] (getItem v u) → wpAny (model X.prog X.w) X.A (subscriptTail value slice v u) (EP X pins σ Q) X.xe s
/-- a call of a builtin's method by values: the receiver, the arguments -/
def MtR (X : Cx) (id : String) (r : V → List V → Hp → VK → Prop) : Prop :=
  ∀ (pins : List (Addr × Obj)) (s : Shared) (σ : St) (H : Hp) (x : V) (xs : List V) (v : Value) (us : List Value) (Q : VK), Inv X pins σ H s → RelV x v → Vals xs us → r x xs H Q →
    wpAny (model X.prog X.w) X.A (call (.builtin id) (v :: us)) (EP X pins σ Q) X.xe s
section
variable {X : Cx} {a b : Expr} {ta tb : TE} {pos : Pos}
/-- a[b] -/
theorem pe_ix {r : R2} (hr : IxR X r) (ha : PE X a ta) (hb : PE X b tb) (hs : PlainIx b) : PE X (.Subscript a b pos) (tOp r ta tb) := by
  intro pins s σ H Q I h
  exact Subscript_ (binT ha hb I h fun v u s2 x y H2 I2 rx ry q => hr a b pins s2 σ H2 x y v u Q I2 rx ry q (hs _ _))

def rIxL (K : PySem.W.Frag) : R2 := fun x y H Q => ∃ p xs i v, x = .ref p ∧ y = .int i ∧ SqL K H p xs ∧ atI xs i = some v ∧ Q v H
def rIxT (K : PySem.W.Frag) : R2 := fun x y H Q => ∃ p xs i v, x = .ref p ∧ y = .int i ∧ SqT K H p xs ∧ atI xs i = some v ∧ Q v H
theorem ix_list : IxR X (rIxL X.K) := by
  intro value slice pins s σ H x y v u Q I rx ry h hs
  obtain ⟨p, xs, i, z, rfl, rfl, hq, he, q⟩ := h
  cases rx
  obtain ⟨t, rfl⟩ := ry
  obtain ⟨its, r, pl, hz⟩ := I.list hq
  obtain ⟨j, h1, h2, h3, h4, h5⟩ := atI_get he
  obtain ⟨w, ew, rw'⟩ := r.get h2
  have hl := r.length
  have hn := line63
  have fin : EP X pins σ Q w s := ⟨z, H, I, rw', q⟩
  by_cases h0 : 0 ≤ i
  · have hj : i.toNat = j := by
      rw [seqIndex_of h0 h5] at h1
      exact Option.some.inj h1
    exact item_listR pl.isList h0 (by omega) (by rw [hj]; simpa using ew) fin hs
  · have hj : (i + (its.toArray.size : Int)).toNat = j := by
      rw [seqIndex_neg (by omega) h4] at h1
      rw [List.size_toArray, ← hl]
      exact Option.some.inj h1
    exact subscriptTail_builtinR (x := w) pl.isList.typeIs slot_list_getitem.lookup
      (wpAny_getItem_list_neg (Q := fun r s' => r = w ∧ EP X pins σ Q r s') pl.isList (by omega) (by rw [List.size_toArray] <;> omega) (by omega) (by rw [hj]; simpa using ew) ⟨rfl, fin⟩) hs
theorem ix_tup : IxR X (rIxT X.K) := by
  intro value slice pins s σ H x y v u Q I rx ry h hs
  obtain ⟨p, xs, i, z, rfl, rfl, hq, he, q⟩ := h
  cases rx
  obtain ⟨t, rfl⟩ := ry
  obtain ⟨its, r, pl, hz⟩ := I.tuple hq
  obtain ⟨j, h1, h2, h3, h4, h5⟩ := atI_get he
  obtain ⟨w, ew, rw'⟩ := r.get h2
  have hl := r.length
  have hn := line63
  have fin : EP X pins σ Q w s := ⟨z, H, I, rw', q⟩
  exact subscriptTail_builtinR (x := w) pl.typeIs slot_tuple_getitem.lookup
    (getItem_tuple (j := j) (Q := fun r s' => r = w ∧ EP X pins σ Q r s') pl (by omega) (by omega) (by rw [List.size_toArray, ← hl]; exact h1) (by simpa using ew) ⟨rfl, fin⟩) hs
theorem Inv.lst {pins : List (Addr × Obj)} {σ : St} {H : Hp} {s : Shared} {p : Addr} {xs : List V} (I : Inv X pins σ H s) (h : H p = some (.lst xs)) :
    ∃ (its : List Value) (n : Nat), Vals xs its ∧ s.heap.get? p = some { cls := .type "list", data := .seq its.toArray n } ∧ xs.length ≤ sizeLine := by
  obtain ⟨z, its, n, r, e⟩ := I.hok p _ h
  exact ⟨its, n, r, e, z⟩
def rSetL : V → V → V → Hp → (Hp → Prop) → Prop := fun o i v H Q => ∃ p xs k j, o = .ref p ∧ i = .int k ∧ H p = some (.lst xs) ∧ ixN xs.length k = some j ∧ Q (upd H p (.lst (xs.set j v)))
/-! ### slices -/
theorem slice_bounds (lo hi : Option Int) (n : Nat) : (sliceBounds lo hi none n).1 = ((HT.sIx n 0 lo : Nat) : Int) ∧ (sliceBounds lo hi none n).2.1 = ((HT.sIx n n hi : Nat) : Int) ∧ (sliceBounds lo hi none n).2.2 = 1 := by
  refine ⟨?_, ?_, rfl⟩
  · cases lo with
    | none => simp [sliceBounds, HT.sIx]
    | some i =>
      simp only [sliceBounds, HT.sIx, Option.getD_none, show (1 : Int) > 0 by decide, if_true]
      by_cases h : i < 0
      · simp only [h, if_true] <;> omega
      · simp only [h, if_false] <;> omega
  · cases hi with
    | none => simp [sliceBounds, HT.sIx]
    | some i =>
      simp only [sliceBounds, HT.sIx, Option.getD_none, show (1 : Int) > 0 by decide, if_true]
      by_cases h : i < 0
      · simp only [h, if_true] <;> omega
      · simp only [h, if_false] <;> omega
theorem slicePick_cut (its : List Value) (lo hi : Option Int) : slicePick its.toArray lo hi none = ((its.drop (HT.sIx its.length 0 lo)).take (HT.sIx its.length its.length hi - HT.sIx its.length 0 lo)).toArray := by
  obtain ⟨h1, h2, h3⟩ := slice_bounds lo hi its.toArray.size
  unfold slicePick
  rw [h1, h2, h3]
  simp only [sliceRange_one, pick_run, List.size_toArray] <;> rfl
/-- xs[lo:hi] of a list: a new list -/
def rSlL (K : PySem.W.Frag) : V → Option Int → Option Int → Hp → VK → Prop := fun x lo hi H Q => ∃ a xs, x = .ref a ∧ SqL K H a xs ∧ ∀ p, H p = none → Q (.ref p) (upd H p (.lst (cutV xs lo hi)))
theorem sl_list : SlR X (rSlL X.K) := by
  intro pins s σ H x v vl vu lo hi sl Q I rx hs pl pu h
  obtain ⟨a, xs, rfl, hx, q⟩ := h
  cases rx
  obtain ⟨its, r, ht, hz⟩ := I.list hx
  have hlen := r.length
  refine ⟨"list", _, slot_list_getitem.lookup, ht.isList.typeIs, ?_⟩
  refine wpAny_getItem_list_slice ht.isList hs pl pu .none (by simp) ?_ (by rw [List.size_toArray] <;> omega)
  rw [slicePick_cut, ← hlen]
  refine ⟨.ref s.heap.objs.size, _, I.laid (t' := s.toks) (o := .lst (cutV xs lo hi)) (fun b ob q => Heap.get?_push_of_some _ q) (Nat.le_refl _) ?_, rfl, q _ (I.hok.fresh (Nat.le_refl _))⟩
  exact ⟨Nat.le_trans (cutV_length xs lo hi) hz, _, 0, (r.drop (HT.sIx xs.length 0 lo)).take (HT.sIx xs.length xs.length hi - HT.sIx xs.length 0 lo), Heap.get?_push_size _ rfl⟩

/-! ### in, not in: flat items -/
def flatV : V → Bool
  | .non => true
  | .bl _ => true
  | .int _ => true
  | .str _ => true
  | _ => false
/-- == of flat values -/
def eqV : V → V → Bool
  | .non, .non => true
  | .bl a, .bl b => a == b
  | .bl a, .int b => (if a then 1 else 0) == b
  | .int a, .bl b => a == (if b then 1 else 0)
  | .int a, .int b => a == b
  | .str a, .str b => a == b
  | _, _ => false
theorem eqAt_V {A : Around} {s : Shared} {y x : V} {u v : Value} (ry : RelV y u) (rx : RelV x v) (fy : flatV y = true) (fx : flatV x = true) : SeqAt.EqAt A s u v (eqV y x) := by
  cases y with
  | non =>
    cases ry
    cases x with
    | non => cases rx; exact SeqAt.EqAt.same _
    | bl b => cases rx; exact SeqAt.EqAt.none_bool b
    | int b => obtain ⟨t, rfl⟩ := rx; exact SeqAt.EqAt.none_int b t
    | str b => obtain ⟨t, rfl⟩ := rx; exact SeqAt.EqAt.none_str b t
    | _ => exact absurd (show false = true from fx) Bool.false_ne_true
  | bl a =>
    cases ry
    cases x with
    | non => cases rx; exact SeqAt.EqAt.bool_none a
    | bl b => cases rx; exact SeqAt.EqAt.bool_bool a b
    | int b => obtain ⟨t, rfl⟩ := rx; exact SeqAt.EqAt.bool_int a b t
    | str b => obtain ⟨t, rfl⟩ := rx; exact SeqAt.EqAt.bool_str a b t
    | _ => exact absurd (show false = true from fx) Bool.false_ne_true
  | int a =>
    obtain ⟨t', rfl⟩ := ry
    cases x with
    | non => cases rx; exact SeqAt.EqAt.int_none a t'
    | bl b => cases rx; exact SeqAt.EqAt.int_bool a t' b
    | int b => obtain ⟨t, rfl⟩ := rx; exact SeqAt.EqAt.int_int a t' b t
    | str b => obtain ⟨t, rfl⟩ := rx; exact SeqAt.EqAt.int_str a t' b t
    | _ => exact absurd (show false = true from fx) Bool.false_ne_true
  | str a =>
    obtain ⟨t', rfl⟩ := ry
    cases x with
    | non => cases rx; exact SeqAt.EqAt.str_none a t'
    | bl b => cases rx; exact SeqAt.EqAt.str_bool a t' b
    | int b => obtain ⟨t, rfl⟩ := rx; exact SeqAt.EqAt.str_int a t' b t
    | str b => obtain ⟨t, rfl⟩ := rx; exact SeqAt.EqAt.str_str a t' b t
    | _ => exact absurd (show false = true from fx) Bool.false_ne_true
  | _ => exact absurd (show false = true from fy) Bool.false_ne_true
/-- the items' answers, read off the values (a value's own answer does not lean on its token) -/
def eqU (x : V) (u : Value) : Bool := match u with
  | .none => eqV .non x
  | .bool b => eqV (.bl b) x
  | .int i _ => eqV (.int i) x
  | .str z _ => eqV (.str z) x
  | _ => false
theorem eqU_of {x y : V} {u : Value} (r : RelV y u) (f : flatV y = true) : eqU x u = eqV y x := by
  cases y with
  | non => cases r; rfl
  | bl b => cases r; rfl
  | int i => obtain ⟨t, rfl⟩ := r; rfl
  | str z => obtain ⟨t, rfl⟩ := r; rfl
  | _ => exact absurd (show false = true from f) Bool.false_ne_true
theorem any_eqU {x : V} : ∀ {xs : List V} {us : List Value}, Vals xs us → xs.all flatV = true → us.any (eqU x) = xs.any fun y => eqV y x
  | _, _, .nil, _ => rfl
  | y :: xs, u :: us, .cons r t, f => by
    rw [List.all_cons, Bool.and_eq_true] at f
    rw [List.any_cons, List.any_cons, eqU_of r f.1, any_eqU t f.2]
theorem mem_eqAt {A : Around} {s : Shared} {x : V} {v : Value} (rx : RelV x v) (fx : flatV x = true) : ∀ {xs : List V} {us : List Value}, Vals xs us → xs.all flatV = true → ∀ u ∈ us, SeqAt.EqAt A s u v (eqU x u)
  | _, _, .nil, _ => fun u hu => by cases hu
  | y :: xs, u :: us, .cons r t, f => fun u' hu => by
    rw [List.all_cons, Bool.and_eq_true] at f
    rcases List.mem_cons.mp hu with rfl | hu
    · rw [eqU_of r f.1]; exact eqAt_V r rx f.1 fx
    · exact mem_eqAt rx fx t f.2 u' hu
def inV (x : V) (xs : List V) : Bool := xs.any fun y => eqV y x
/-- x in a list or tuple of flat items -/
def rIn (K : PySem.W.Frag) (neg : Bool) : R2 := fun x y H Q => ∃ p xs, y = .ref p ∧ (SqL K H p xs ∨ SqT K H p xs) ∧ flatV x = true ∧ xs.all flatV = true ∧ Q (.bl (if neg then !inV x xs else inV x xs)) H
theorem op_in_seq : OpR X (compareOp .In) (rIn X.K false) := by
  intro pins s σ H x y v u Q I rx ry h
  obtain ⟨p, xs, rfl, hq, fx, fs, q⟩ := h
  cases ry
  rcases hq with hq | hq
  · obtain ⟨its, r, pl, hz⟩ := I.list hq
    refine SeqAt.in_listAt (eqU x) pl.isList (fun w hw => mem_eqAt rx fx r fs w (by simpa using hw)) ⟨.bl _, H, I, rfl, ?_⟩
    rw [show its.toArray.any (eqU x) = its.any (eqU x) by simp, any_eqU r fs]
    exact q
  · obtain ⟨its, r, pl, hz⟩ := I.tuple hq
    refine SeqAt.in_tupleAt (eqU x) pl (fun w hw => mem_eqAt rx fx r fs w (by simpa using hw)) ⟨.bl _, H, I, rfl, ?_⟩
    rw [show its.toArray.any (eqU x) = its.any (eqU x) by simp, any_eqU r fs]
    exact q
theorem op_notIn_seq : OpR X (compareOp .NotIn) (rIn X.K true) := by
  intro pins s σ H x y v u Q I rx ry h
  obtain ⟨p, xs, rfl, hq, fx, fs, q⟩ := h
  cases ry
  rcases hq with hq | hq
  · obtain ⟨its, r, pl, hz⟩ := I.list hq
    refine SeqAt.notIn_listAt (eqU x) pl.isList (fun w hw => mem_eqAt rx fx r fs w (by simpa using hw)) ⟨.bl _, H, I, rfl, ?_⟩
    rw [show its.toArray.any (eqU x) = its.any (eqU x) by simp, any_eqU r fs]
    exact q
  · obtain ⟨its, r, pl, hz⟩ := I.tuple hq
    refine SeqAt.notIn_tupleAt (eqU x) pl (fun w hw => mem_eqAt rx fx r fs w (by simpa using hw)) ⟨.bl _, H, I, rfl, ?_⟩
    rw [show its.toArray.any (eqU x) = its.any (eqU x) by simp, any_eqU r fs]
    exact q
/-! ### len, list(x), tuple(x) of any list or tuple that is read -/
theorem call_len_seq : CallR X (.builtin "len") (fun xs H Q => ∃ p ys, xs = [.ref p] ∧ (SqL X.K H p ys ∨ SqT X.K H p ys) ∧ Q (.int ys.length) H) := by
  intro pins s σ H xs us Q I r h
  obtain ⟨p, ys, rfl, hq, q⟩ := h
  obtain ⟨u, rfl, rx⟩ := vals1 r
  cases rx
  have hn := line63
  rcases hq with hq | hq
  · obtain ⟨its, r', pl, hz⟩ := I.list hq
    have hlen := r'.length
    exact Calls.call_len_list pl.isList (by simp only [List.size_toArray] <;> omega) ⟨.int ys.length, H, I.tok _, ⟨s.toks + 1, by rw [List.size_toArray, hlen]⟩, q⟩
  · obtain ⟨its, r', pl, hz⟩ := I.tuple hq
    have hlen := r'.length
    exact len_tuple pl (by simp only [List.size_toArray] <;> omega) ⟨.int ys.length, H, I.tok _, ⟨s.toks + 1, by rw [List.size_toArray, hlen]⟩, q⟩
theorem call_list_of : CallR X (.type "list") (fun xs H Q => ∃ p ys, xs = [.ref p] ∧ (SqL X.K H p ys ∨ SqT X.K H p ys) ∧ ∀ l, H l = none → Q (.ref l) (upd H l (.lst ys))) := by
  intro pins s σ H xs us Q I r h
  obtain ⟨p, ys, rfl, hq, q⟩ := h
  obtain ⟨u, rfl, rx⟩ := vals1 r
  cases rx
  have fin : ∀ (its : List Value), Vals ys its → ys.length ≤ sizeLine → ∀ (h' : Heap) (c' : Nat), (∀ b o', s.heap.get? b = some o' → h'.get? b = some o') →
      h'.get? s.heap.objs.size = some { cls := .type "list", dict := none, data := .seq its.toArray c', slots := #[] } → EP X pins σ Q (.ref s.heap.objs.size) { s with heap := h' } := fun its r' hz h' c' kp e =>
    ⟨.ref s.heap.objs.size, _, I.laid (t' := s.toks) kp (Nat.le_refl _) (show ObjOk X.prog X.w _ h' _ (.lst ys) from ⟨hz, its, c', r', e⟩), rfl, q _ (I.hok.fresh (Nat.le_refl _))⟩
  rcases hq with hq | hq
  · obtain ⟨its, r', pl, hz⟩ := I.list hq
    have hlen := r'.length
    obtain ⟨o, ho, hc, n, hd⟩ := pl.isList
    exact call_list_seq p (.inl rfl) ho hc hd (fun h' c' kp e => fin its r' hz h' c' kp e) (by simp only [List.size_toArray] <;> omega)
  · obtain ⟨its, r', pl, hz⟩ := I.tuple hq
    have hlen := r'.length
    obtain ⟨o, ho, hc, n, hd⟩ := pl
    exact call_list_seq p (.inr rfl) ho hc hd (fun h' c' kp e => fin its r' hz h' c' kp e) (by simp only [List.size_toArray] <;> omega)
/-- the value is of that builtin type -/
def tyV (K : PySem.W.Frag) (T : String) (x : V) (H : Hp) : Prop := match x with
  | .str _ => T = "str"
  | .int _ => T = "int"
  | .ref p => (T = "list" ∧ ∃ xs, SqL K H p xs) ∨ (T = "tuple" ∧ ∃ o, K.lookup p = some o ∧ o.cls = .type "tuple" ∧ o.dict = none) ∨
      (T = "dict" ∧ ((∃ kvs, H p = some (.dK kvs)) ∨ ∃ kvs, H p = some (.dT kvs))) ∨ (T = "set" ∧ ∃ S n, H p = some (.set S n))
  | _ => False
theorem tyV_is {pins : List (Addr × Obj)} {σ : St} {H : Hp} {s : Shared} {T : String} {x : V} {v : Value} (I : Inv X pins σ H s) (r : RelV x v) (ty : tyV X.K T x H) :
    s.TypeIs v T ∧ ∀ a, v = .ref a → ∃ ob, s.heap.get? a = some ob ∧ ob.dict = none := by
  cases x with
  | str z =>
    obtain ⟨t, rfl⟩ := r
    cases (show T = "str" from ty)
    exact ⟨typeIs_str s z t, fun _ e => nomatch e⟩
  | int i =>
    obtain ⟨t, rfl⟩ := r
    cases (show T = "int" from ty)
    exact ⟨typeIs_int s i t, fun _ e => nomatch e⟩
  | ref p =>
    cases r
    rcases ty with ⟨rfl, xs, hq⟩ | ⟨rfl, o, hk, hc, hd⟩ | ⟨rfl, hk⟩ | ⟨rfl, S, n, hk⟩
    · obtain ⟨its, _, pl, _⟩ := I.list hq
      refine ⟨pl.isList.typeIs, fun a e => ?_⟩
      cases e
      obtain ⟨o, n, e, c, hd, _⟩ := pl
      exact ⟨o, e, hd⟩
    · refine ⟨⟨o, I.kIn p o hk, hc⟩, fun a e => ?_⟩
      cases e
      exact ⟨o, I.kIn _ o hk, hd⟩
    · have z : ∃ o, s.heap.get? p = some o ∧ o.ExactDict := by
        rcases hk with ⟨kvs, hk⟩ | ⟨kvs, hk⟩
        · obtain ⟨_, _, _, _, o, _, _, e, ex, _⟩ := I.hok p _ hk
          exact ⟨o, e, ex⟩
        · obtain ⟨_, _, _, _, o, _, _, e, ex, _⟩ := I.hok p _ hk
          exact ⟨o, e, ex⟩
      obtain ⟨o, e, ex⟩ := z
      refine ⟨⟨o, e, ex.1⟩, fun a e2 => ?_⟩
      cases e2
      exact ⟨o, e, ex.2.1⟩
    · obtain ⟨o, _, _, _, e, ex, _⟩ := I.hok p _ hk
      refine ⟨⟨o, e, ex.1⟩, fun a e2 => ?_⟩
      cases e2
      exact ⟨o, e, ex.2.1⟩
  | _ => exact False.elim ty
def tBM0 (K : PySem.W.Frag) (T : String) (r : V → List V → Hp → VK → Prop) (to : TE) : TE := fun σ H Q => to σ H fun x H1 => tyV K T x H1 ∧ r x [] H1 Q
def tBM (K : PySem.W.Frag) (T : String) (r : V → List V → Hp → VK → Prop) (to : TE) (t : TA) : TE := fun σ H Q => to σ H fun x H1 => tyV K T x H1 ∧ t σ H1 fun xs H2 => r x xs H2 Q
variable {o e : Expr} {es : List Expr} {to : TE} {t : TA} {name : Str} {apos cpos : Pos} {T id : String} {r : V → List V → Hp → VK → Prop}
theorem pe_bm (pa : PlainAttrs T) (slot : Slot T name id) (hty : typeOf (.builtin id) = pure (.type "method_descriptor")) (hm : MtR X id r) (ho : PE X o to) (ha : PA X (e :: es) t)
    (hbase : attributeBase o name X.env (eval o X.env) = eval o X.env := by rfl)
    (hfew : ((backTo cpos (starEach (e :: es) X.env)).all (fun x => !x.1) && (backToKw cpos (keywordEach [] X.env)).all (fun x => x.1.isSome)
      && decide ((e :: es).length + ([] : List Keyword).length + (if ([] : List Keyword).isEmpty then 0 else 1) < 30)) = true := by rfl)
    (hline : (apos.endLine == cpos.line) = true := by rfl) (hs : starEach (e :: es) X.env = (false, eval e X.env) :: starEach es X.env := by rfl) (hplain : (backTo cpos (starEach es X.env)).any (·.1) = false := by rfl) :
    PE X (.Call (.Attribute o name apos) (e :: es) [] cpos) (tBM X.K T r to t) := by
  intro pins s σ H Q I h
  refine wpAny_Call_method_late hbase hfew hline rfl (thn (ho pins s σ H _ I h) fun v s1 ⟨x, H1, I1, r1, ty, q1⟩ => ?_)
  obtain ⟨h1, h2⟩ := tyV_is I1 r1 ty
  refine ⟨T, id, pa, slot, hty, h1, h2, ?_⟩
  have hA := ha cpos pins s1 σ H1 _ I1 q1
  rw [hs] at hA ⊢
  refine Calls.callWith_builtin (by show (false || (backTo cpos (starEach es X.env)).any (·.1)) = false; rw [hplain] <;> rfl) (Calls.evalArgs_plain ?_)
  exact thn hA fun us s2 ⟨vs, H2, I2, r2, q2⟩ => hm pins s2 σ H2 x vs v us Q I2 r1 r2 q2
end
end L2

namespace L2
open PySem PySem.Spec PyProof.Rows

def MtM (X : Cx) (id : String) (r : V → List V → Hp → VK → Prop) : Prop :=
  ∀ (pins : List (Addr × Obj)) (s : Shared) (σ : St) (H : Hp) (x : V) (xs : List V) (v : Value) (us : List Value) (Q : VK), Inv X pins σ H s → RelV x v → Vals xs us → r x xs H Q →
    wpAny (model X.prog X.w) X.A (call (.builtin id) (v :: us)) (EP X pins σ Q) X.xe s

/-! ### lists of values -/
theorem Vals.one : ∀ {x : V} {us : List Value}, Vals [x] us → ∃ u, us = [u] ∧ RelV x u
  | _, _, .cons r .nil => ⟨_, rfl, r⟩
theorem Vals.zero : ∀ {us : List Value}, Vals [] us → us = []
  | _, .nil => rfl
theorem Vals.dropLast {xs : List V} {us : List Value} (h : Vals xs us) : Vals xs.dropLast us.dropLast := by
  induction h with
  | nil => exact .nil
  | cons r t ih =>
    cases t with
    | nil => exact .nil
    | cons q t' => exact .cons r ih
theorem Vals.eraseIdx : ∀ {xs : List V} {us : List Value} (i : Nat), Vals xs us → Vals (xs.eraseIdx i) (us.eraseIdx i)
  | _, _, _, .nil => .nil
  | _, _, 0, .cons _ t => t
  | _, _, i + 1, .cons r t => .cons r (Vals.eraseIdx i t)
theorem Vals.reverse {xs : List V} {us : List Value} (h : Vals xs us) : Vals xs.reverse us.reverse := by
  induction h with
  | nil => exact .nil
  | cons r t ih => rw [List.reverse_cons, List.reverse_cons]; exact Vals.append ih (.cons r .nil)
section
variable {X : Cx} {pins : List (Addr × Obj)} {σ : St} {H : Hp} {s : Shared} {l b : Addr} {xs ys zs : List V}

/-! ### the two steps: a tracked list is rewritten, a new list is laid -/
theorem Inv.lset {its its' : List Value} {n : Nat} {f : Array Value → Array Value} {t' : Nat} (I : Inv X pins σ H s) (hH : H l = some (.lst xs))
    (e : s.heap.get? l = some { cls := .type "list", data := .seq its.toArray n }) (hf : f its.toArray = its'.toArray) (hv : Vals ys its') (hz : ys.length ≤ sizeLine) :
    Inv X pins σ (upd H l (.lst ys)) { s with heap := s.heap.update l (Obj.mapSeq f), toks := t' } := by
  have q := PySem.IsL.update e f
  rw [hf] at q
  refine I.write (x := l) (e := l) (by rw [hH]; exact trivial) (.inl rfl) (fun b' u hb hu => (Heap.get?_update_other s.heap (Obj.mapSeq f) (Ne.symm hb)).trans hu) ⟨_, q⟩ ?_
  exact ⟨hz, its', _, hv, q⟩
theorem Inv.lnew {its : List Value} {t' : Nat} (I : Inv X pins σ H s) (hv : Vals ys its) (hz : ys.length ≤ sizeLine) :
    Inv X pins σ (upd H s.heap.objs.size (.lst ys)) { s with heap := s.heap.push { cls := .type "list", data := .seq its.toArray }, toks := t' } :=
  I.laid (fun _ _ q => Heap.get?_push_of_some _ q) (Nat.le_refl _) ⟨hz, its, 0, hv, Heap.get?_push_size _ rfl⟩
theorem Inv.fresh (I : Inv X pins σ H s) : H s.heap.objs.size = none := I.hok.fresh (Nat.le_refl _)
theorem Inv.lstM (I : Inv X pins σ H s) (hH : H l = some (.lst xs)) : xs.length ≤ sizeLine ∧ ∃ (its : List Value) (n : Nat), Vals xs its ∧ xs.length = its.length ∧ s.heap.get? l = some { cls := .type "list", data := .seq its.toArray n } := by
  obtain ⟨z, its, n, r, e⟩ := I.hok l _ hH
  exact ⟨z, its, n, r, r.length, e⟩

theorem notLongL {n : Nat} (h : n ≤ sizeLine) : Builtin.List.listTooLong n = false := by
  unfold Builtin.List.listTooLong
  exact decide_eq_false (by omega)
end

section
variable {X : Cx}

/-! ### methods -/
def rAppend : V → List V → Hp → VK → Prop := fun x vs H Q => ∃ l xs y, x = .ref l ∧ vs = [y] ∧ H l = some (.lst xs) ∧ xs.length < sizeLine ∧ Q .non (upd H l (.lst (xs ++ [y])))
theorem mt_append : MtM X "list.append" rAppend := by
  intro pins s σ H x vs v us Q I rx rv h
  obtain ⟨l, xs, y, rfl, rfl, hH, hz, q⟩ := h
  cases rx
  obtain ⟨u, rfl, ru⟩ := rv.one
  obtain ⟨z, its, n, r, hl, e⟩ := I.lstM hH
  refine call_meets F.slot_list_append ⟨_, e, rfl⟩ F.entry_list_append (F.args_list_append_2 _ _) (PySem.list_append l its.toArray n u (by rw [List.size_toArray]; omega)) ⟨e, ?_⟩
  refine ⟨.non, _, I.lset (its' := its ++ [u]) hH e (by simp) (r.append (.cons ru .nil)) ?_, rfl, q⟩
  rw [List.length_append, List.length_singleton]
  omega

def rExtend : V → List V → Hp → VK → Prop := fun x vs H Q => ∃ l b xs zs, x = .ref l ∧ vs = [.ref b] ∧ H l = some (.lst xs) ∧ H b = some (.lst zs) ∧ xs.length + zs.length ≤ sizeLine ∧ Q .non (upd H l (.lst (xs ++ zs)))
theorem mt_extend : MtM X "list.extend" rExtend := by
  intro pins s σ H x vs v us Q I rx rv h
  obtain ⟨l, b, xs, zs, rfl, rfl, hH, hB, hz, q⟩ := h
  cases rx
  obtain ⟨u, rfl, ru⟩ := rv.one
  cases ru
  obtain ⟨z, its, n, r, hl, e⟩ := I.lstM hH
  obtain ⟨z2, its2, n2, r2, hl2, e2⟩ := I.lstM hB
  have hsz : its.toArray.size + its2.toArray.size ≤ sizeLine := by rw [List.size_toArray, List.size_toArray]; omega
  have hlong : ¬ (!its.toArray.isEmpty && Builtin.List.listTooLong (its.toArray.size + its2.toArray.size)) = true := by
    rw [notLongL hsz, Bool.and_false]
    exact Bool.false_ne_true
  refine call_meets F.slot_list_extend ⟨_, e, rfl⟩ F.entry_list_extend (F.args_list_extend_2 _ _)
    (AutoSeq1.list_extend_list_list_0 l its.toArray n b its2.toArray n2 hlong (by rw [List.size_toArray]; omega) (by omega)) ⟨e, e2, ?_⟩
  refine ⟨.non, _, I.lset (its' := its ++ its2) hH e (by simp) (r.append r2) ?_, rfl, q⟩
  rw [List.length_append]
  omega

def rPop : V → List V → Hp → VK → Prop := fun x vs H Q => ∃ l xs y, x = .ref l ∧ vs = [] ∧ H l = some (.lst xs) ∧ xs[xs.length - 1]? = some y ∧ Q y (upd H l (.lst xs.dropLast))
def rClear : V → List V → Hp → VK → Prop := fun x vs H Q => ∃ l xs, x = .ref l ∧ vs = [] ∧ H l = some (.lst xs) ∧ Q .non (upd H l (.lst []))
/-! ### list + list, list += list, list * int -/
def rCat : R2 := fun x y H Q => ∃ l b xs zs, x = .ref l ∧ y = .ref b ∧ H l = some (.lst xs) ∧ H b = some (.lst zs) ∧ xs.length + zs.length ≤ sizeLine ∧ ∀ p, H p = none → Q (.ref p) (upd H p (.lst (xs ++ zs)))
theorem op_cat : OpR X (binaryOp .Add) rCat := by
  intro pins s σ H x y v u Q I rx ry h
  obtain ⟨l, b, xs, zs, rfl, rfl, hH, hB, hz, q⟩ := h
  cases rx
  cases ry
  obtain ⟨z, its, n, r, hl, e⟩ := I.lstM hH
  obtain ⟨z2, its2, n2, r2, hl2, e2⟩ := I.lstM hB
  refine PySem.P.add_list e e2 ?_ (by rw [List.size_toArray, List.size_toArray]; omega)
  have ea : its.toArray ++ its2.toArray = (its ++ its2).toArray := by simp
  rw [ea]
  exact ⟨.ref _, _, I.lnew (t' := s.toks) (r.append r2) (by rw [List.length_append]; omega), rfl, q _ I.fresh⟩
end

section
variable {prog : Program} {w : World} {A : Around} {E : Value → Shared → Prop} {s : Shared}
set_option maxRecDepth 100000 in
end

section
variable {X : Cx}
end
end L2

namespace Att
open PySem PySem.W PySem.Calls PyProof.Rows

/-! ### the script -/
theorem ints_of_wellAll {P : Params} {h : Heap} : ∀ (ns : List Int) (vs : List Value), WellAll P h vs (ns.map WData.int) → IntsAre vs ns := by
  intro ns
  induction ns with
  | nil =>
    intro vs w
    rw [List.map_nil] at w
    cases w
    exact .nil
  | cons n ns ih =>
    intro vs w
    rw [List.map_cons] at w
    cases w with
    | cons a b =>
      cases a
      exact .cons _ _ (ih _ b)

theorem script_of {l : OpenLaw} {n : Nat} (hn : l.most = some n) {P : Params} {h : Heap} {args : List WData} {vals : List Value}
    (hpre : l.row.toRowW.claim.pre args = true) (hwl : WellAll P h vals args) :
    ∃ a vs ns, vals = [Value.ref a] ∧ args = [WData.list (ns.map WData.int)] ∧ h.get? a = some { cls := .type "list", data := .seq vs.toArray } ∧ IntsAre vs ns ∧ ns.length ≤ n := by
  have hsh : WShape.hasAll [] args [.list .int] = true := (pre_splitW hpre).1
  have hc : l.pre.holds [] { args := args } = true := (pre_splitW hpre).2
  obtain ⟨d, r, rfl, h1, h2⟩ := hasAllW_cons hsh
  obtain rfl := hasAllW_nil h2
  obtain ⟨xs, rfl, h3⟩ := hasW_list h1
  obtain ⟨ns, rfl⟩ := items_int h3
  have hlen : ns.length ≤ n := by
    unfold OpenLaw.pre at hc
    have h4 : (WTm.not (.lt (.lit (.int (n : Int))) (.len (.arg 0)))).holds [] { args := [.list (ns.map .int)] } = true := by
      have h4 := (holds_andW hc).1
      rw [hn] at h4
      exact h4
    have h5 := condW_of h4 (w_not (w_lt w_lit (w_len_list (w_arg rfl))))
    rw [List.length_map] at h5
    refine Nat.le_of_not_lt fun q => ?_
    have q' : (n : Int) < ((ns.length : Nat) : Int) := by omega
    first
      | (rw [decide_eq_true q'] at h5; exact absurd h5 (by decide))
      | (simp at h5; omega)
  cases hwl with
  | cons w1 w2 =>
    cases w2
    cases w1 with
    | list ho hall => exact ⟨_, _, ns, rfl, rfl, ho, ints_of_wellAll ns _ hall, hlen⟩

theorem post_true (l : OpenLaw) (args : List WData) : l.row.toRowW.claim.post args (.bool true) args = true :=
  postW_of (r := l.row.toRowW) (X := (true == true))
    (show WShape.has [] (.bool true) .bool = true by first | rfl | decide | simp [WShape.has, WShape.arms, WShape.armsAll])
    (show (WTm.eq .res (.lit (.bool true))).value [] { args := args, res := some (.bool true), after := args } = some (.bool (true == true)) from w_eq_bool (w_res rfl) w_lit) rfl

/-- the same from a codeAny of the CALL (for a layer whose function contracts speak of calls) -/
theorem attach_call {l : OpenLaw} {n : Nat} {q : Program} {loose : List Str} {XP : (Str → Option Value) → Heap → Prop} {YP : World → Heap → Prop} {d : DefRec}
    (hn : l.most = some n) (hdf : d.params.defaults = [])
    (call : ∀ (w : World) (s₀ s₁ : Shared) (mg mb : Str → Option Value) (fa : Addr) (o : Obj) (pm cd doc : Value) (a : Addr) (vs : List Value) (ns : List Int),
      Ground q loose [] XP w s₀ mg mb s₁.heap → YP w s₁.heap →
      s₁.heap.get? fa = some o → o.data = .func (docDef d.name d.params d.body d.scope pm cd doc) → s₁.heap.CodeRec cd d.name → mg d.name = some (.ref fa) →
      s₁.heap.get? a = some { cls := .type "list", data := .seq vs.toArray } → IntsAre vs ns → ns.length ≤ n → s₁.gens = #[] →
      codeAny (model l.prog w) callerA (.call (.ref fa) ⟨[.ref a], []⟩) (fun r s' => r = .ok (.ret (.bool true)) ∧ OldK s₁.heap s'.heap ∧ s'.os = s₁.os ∧ AllBare s'.gens) s₁) :
    WalkO q loose XP YP l.row.toRowW d [] (fun f vs => PySem.call f vs) := by
  intro w s₀ s₁ mg mb G Y fa o pm cd doc dV kV ho hd hcd hD hmg hg args vals as hpre hlay hrd hwl hlo
  obtain rfl : dV = .none := Dflts.none hD hdf
  obtain rfl : kV = .none := Dflts.noKw hD
  obtain ⟨a, vs, ns, rfl, rfl, hobj, hints, hlen⟩ := script_of hn hpre hwl
  refine enter_call (codeAny_mono (call w s₀ s₁ mg mb fa o pm cd doc a vs ns G Y ho (fd_plain hd) hcd hmg hobj hints hlen hg) fun r s' hq => ?_)
  obtain ⟨rfl, h2, h3, h4⟩ := hq
  exact ⟨.inl ⟨.bool true, .bool true, [], rfl, fun _ => rfl, .bool true, post_true l _, fun _ => ⟨List.Pairwise.nil, fun _ hm => (nomatch hm)⟩⟩, h2, h3, h4⟩

section
variable {prog : Program} {w : World} {A : Around} {E : Value → Shared → Prop} {s : Shared} {K : Frag}

end
end Att

namespace L2
open PySem PySem.Spec PyProof.Rows

theorem vals_ints : ∀ {vs : List Value} {ns : List Int}, IntsAre vs ns → Vals (ns.map V.int) vs
  | _, _, .nil => .nil
  | _, _, .cons n t h => .cons ⟨t, rfl⟩ (vals_ints h)

/-- nothing is tracked but the script, known to the object (or it is an object of the module) -/
def Only (H : Hp) : Prop := ∀ b, H b = none ∨ ∃ o xs, H b = some (.frz o (.lst xs))

/-- THE HEAD: the law's promise, at the heap behind the top. F, the promise of the law's def, may use that base is part of the heap (so K.In base, base.Ns mainGlobals mg stand in Mod) -/
theorem law_call {P : Program} {w : World} {K : PySem.W.Frag} {mg mb : Str → Option Value} {CX : CXT} {k : Nat} {fa a : Addr} {fd : FuncData} {x : Str} {sp : Sp} {s₁ : Shared} {vs : List Value} {ns : List Int}
    (KX : K.In s₁.heap) (hns : s₁.heap.Ns mainGlobals mg) (hb : s₁.heap.Ns builtinsNs mb) (hbb : ∀ x : Str, x ≠ "__name__" → mb x = bootBuiltins x) (hlim : s₁.heap.NoLimit) (hg : s₁.gens = #[])
    (ha : s₁.heap.get? a = some { cls := .type "list", data := .seq vs.toArray }) (hi : IntsAre vs ns) (hl : ns.length ≤ sizeLine) (hr : Room k callerA)
    (F : ∀ base : Heap, K.In base → base.Ns mainGlobals mg → FnOk P w K mg base CX k fa fd [x] sp) (hbind : ∀ (s : Shared) (u : Value), BindsTo s fd ⟨[u], []⟩ [(x, u)])
    (hsp : ∀ H : Hp, Only H → SqL K H a (ns.map V.int) → sp [.ref a] H (fun v _ => v = .bl true) fun _ _ _ => False)
    (hCX : ∀ H e s', CX [] H s₁ (fun _ _ _ => False) e s' → False) :
    codeAny (model P w) callerA (.call (.ref fa) ⟨[.ref a], []⟩) (fun r s' => r = .ok (.ret (.bool true)) ∧ OldK s₁.heap s'.heap ∧ s'.os = s₁.os ∧ AllBare s'.gens) s₁ := by
  have rv := vals_ints hi
  have lenV := hi.length
  -- from an abstract heap in which nothing but the script may be tracked
  have core : ∀ H : Hp, Only H → SqL K H a (ns.map V.int) → HOk P w H s₁.heap → (∀ b, H b ≠ none → b = a) → (H a ≠ none → K.lookup a = none) →
      codeAny (model P w) callerA (.call (.ref fa) ⟨[.ref a], []⟩) (fun r s' => r = .ok (.ret (.bool true)) ∧ OldK s₁.heap s'.heap ∧ s'.os = s₁.os ∧ AllBare s'.gens) s₁ := by
    intro H hO hS hok hA hK
    have base_of : ∀ {b : Addr} {o : Obj}, s₁.heap.get? b = some o → H b = none → (hidT s₁.heap H).get? b = some o := fun e n => hidT_get e n
    have noA : ∀ {b : Addr} {o : Obj} {es : Array DictEntry} {ep : Nat}, s₁.heap.get? b = some o → o.data = .dict es ep → H b = none := fun {b o es ep} e d => by
      cases q : H b with
      | none => rfl
      | some u =>
        have e' : b = a := hA b (by rw [q]; simp)
        subst e'
        rw [ha] at e; cases e
        have d' : Data.seq vs.toArray _ = Data.dict es ep := d
        cases d'
    have nsK : ∀ {b : Addr} {m : Str → Option Value}, s₁.heap.Ns b m → (hidT s₁.heap H).Ns b m := fun {b m} ⟨o, es, ep, e, d, r⟩ => ⟨o, es, ep, base_of e (noA e d), d, r⟩
    have hKb : K.In (hidT s₁.heap H) := fun b o e => base_of (KX b o e) (by
      cases q : H b with
      | none => rfl
      | some u =>
        have e' : b = a := hA b (by rw [q]; simp)
        subst e'
        rw [hK (by rw [q]; simp)] at e; cases e)
    have hM : Mod K mg (hidT s₁.heap H) := ⟨hKb, nsK hns, ⟨mb, nsK hb, hbb⟩, let ⟨mc, h1, h2⟩ := hlim; ⟨mc, nsK h1, h2⟩⟩
    have e0 : Env0 P w K mg (hidT s₁.heap H) callerA [] s₁ H := ⟨rfl, hM, fun b o e => of_hidT e, Nat.le_of_eq (hidT_size _ _), trivial, fun b hb => absurd (show b ∈ ([] : List Addr) from hb) (by simp), hok, .of_eq hg⟩
    refine codeAny_mono ((F _ hKb (nsK hns)).run callerA [] s₁ H ⟨[.ref a], []⟩ [.ref a] [.ref a] _ _ hr e0 (hbind s₁ (.ref a)) (.cons rfl .nil) (hsp H hO hS)) fun r s' h => ?_
    cases r with
    | error e => exact (hCX H e s' h).elim
    | ok fl =>
      cases fl with
      | next => exact False.elim h
      | brk => exact False.elim h
      | cont => exact False.elim h
      | ret u =>
        obtain ⟨v, H', os, bare, un, hok', r', q⟩ := h
        have q' : v = .bl true := q
        subst q'
        obtain rfl : u = Value.bool true := r'
        refine ⟨rfl, OldK.of_keep fun b o e => ?_, os, bare⟩
        cases q : H b with
        | none => exact un.keep b o e q (by intro z; exact absurd (show b ∈ ([] : List Addr) from z) (by simp)) (by simp)
        | some u =>
          rcases hO b with z | ⟨ob, xs, z⟩
          · rw [q] at z; cases z
          · have z2 := un.frzs b ob _ z
            obtain ⟨e1, _⟩ := hok b _ z
            obtain ⟨e2, _⟩ := hok' b _ z2
            rw [e] at e1; cases e1
            exact e2
  cases hk : K.lookup a with
  | some o =>
    -- the script is one of the module's own objects
    have e := KX a o hk
    rw [ha] at e
    cases e
    refine core (fun _ => none) (fun _ => .inl rfl) (.inr ⟨_, vs.toArray, _, hk, rfl, rfl, rfl, by rw [List.size_toArray, lenV]; exact hl, by simpa using rv⟩) (fun b u z => by have z' : (none : Option HO) = some u := z; cases z') (fun b z => absurd rfl z) fun z => absurd rfl z
  | none =>
    refine core (fun b => if b = a then some (.frz { cls := .type "list", data := .seq vs.toArray } (.lst (ns.map V.int))) else none) (fun b => ?_) (.inl (.inr ⟨{ cls := .type "list", data := .seq vs.toArray }, if_pos rfl⟩)) (fun b u z => ?_) (fun b z => ?_) fun _ => hk
    · by_cases hb : b = a
      · exact .inr ⟨_, _, if_pos hb⟩
      · exact .inl (if_neg hb)
    · by_cases hb : b = a
      · have z' := (if_pos hb).symm.trans z
        cases z'
        subst hb
        exact ⟨ha, by rw [List.length_map]; exact hl, vs, _, rv, ha⟩
      · have z' := (if_neg hb).symm.trans z
        cases z'
    · by_cases hb : b = a
      · exact hb
      · exact absurd (if_neg hb) z
end L2

namespace L2
open PySem PySem.Spec PyProof.Rows

/-- the goal that k_head leaves (case hc), from the law's promise. F gives the function object fd (K's own) once, then the promise over every base -/
theorem walk_of {l : PySem.W.OpenLaw} {n k : Nat} {q : Program} {loose : List Str} {XP : (Str → Option Value) → Heap → Prop} {YP : World → Heap → Prop} {d : DefRec} {K : Params → PySem.W.Frag} {CX : World → CXT} {sp : World → Sp} {x : Str}
    (hn : l.most = some n) (hn2 : n ≤ sizeLine) (hdf : d.params.defaults = []) (hr : Room k callerA)
    (hY : ∀ (w : World) (h : Heap), YP w h → (K w.params).In h)
    (F : ∀ (w : World) (mg : Str → Option Value) (fa : Addr) (h : Heap), (K w.params).In h → h.Ns mainGlobals mg → mg d.name = some (.ref fa) →
      ∃ fd : FuncData, (∀ (s : Shared) (u : Value), BindsTo s fd ⟨[u], []⟩ [(x, u)]) ∧
        ∀ base : Heap, (K w.params).In base → base.Ns mainGlobals mg → FnOk l.prog w (K w.params) mg base (CX w) k fa fd [x] (sp w))
    (hsp : ∀ (w : World) (H : Hp) (a : Addr) (ns : List Int), ns.length ≤ n → Only H → SqL (K w.params) H a (ns.map V.int) → sp w [.ref a] H (fun v _ => v = .bl true) fun _ _ _ => False)
    (hCX : ∀ (w : World) (H : Hp) (s : Shared) (e : Value) (s' : Shared), CX w [] H s (fun _ _ _ => False) e s' → False) :
    PySem.W.WalkO q loose XP YP l.row.toRowW d [] (fun f vs => PySem.call f vs) := by
  refine Att.attach_call hn hdf fun w s₀ s₁ mg mb fa o pm cd doc a vs ns G Y ho hd hcd hmg hobj hints hlen hg => ?_
  have KX := hY w _ Y
  obtain ⟨fd, hb, hF⟩ := F w mg fa _ KX G.T.g hmg
  exact law_call KX G.T.g G.T.b G.T.builtins G.T.nolimit hg hobj hints (Nat.le_trans hlen hn2) hr hF hb (fun H hO hS => hsp w H a ns hlen hO hS) fun H e s' => hCX w H s₁ e s'
end L2

namespace L2
open PySem PySem.Spec PyProof.Rows

def defArgs (s : Stmt) : Arguments := match s with
  | .FunctionDef _ a _ _ _ _ _ _ _ _ => a
  | _ => { posonlyargs := [], args := [], vararg := none, kwonlyargs := [], kw_defaults := [], kwarg := none, defaults := [] }
def defBody (s : Stmt) : List Stmt := match s with
  | .FunctionDef _ _ b _ _ _ _ _ _ _ => b
  | _ => []
def defScope (s : Stmt) : Scope := match s with
  | .FunctionDef _ _ _ _ _ _ sc _ _ _ => sc
  | _ => { kind := .function, names := [], isGenerator := false, isCoroutine := false }

/-! ### no exception leaves a def -/
abbrev CX0 : CXT := fun _ _ _ _ _ _ => False
abbrev E0 : XK := fun _ _ _ => False
theorem pass0 {X : Cx} : Passes CX0 X E0 := fun _ _ _ _ _ _ _ h => h.elim

/-! ### a def (or method) of the text as it stands behind the top -/
structure Fun (K : PySem.W.Frag) (x qual : Str) (st : Stmt) (f : Addr) (fd : FuncData) : Prop where
  ex : ∃ (oc : Value) (od : Option Addr) (kV doc pm : Value) (an : Option Addr) (cdv ct : Value) (osl : Array (Option Value)),
    fd = PySem.W.fnOf x qual (defArgs st) (defBody st) (defScope st) .none kV doc pm an cdv ct ∧ K.lookup f = some ⟨oc, od, .func fd, osl⟩ ∧ PySem.W.codeIn K cdv qual = true
  kp : PySem.W.keepIn K (.ref f) = true
section
variable {P : Program} {w : World} {K : PySem.W.Frag} {mg : Str → Option Value} {base : Heap}
/-- THE RULE for a def: its body as a term of rules, and the reading of that term -/
theorem Fun.ok {x qual : Str} {st : Stmt} {f : Addr} {fd : FuncData} {N ps : List Str} {k : Nat} {sp : Sp} (F : Fun K x qual st f fd) (S : FnScope N ps (defScope st)) (len : ∀ vs H Q E, sp vs H Q E → vs.length = ps.length)
    (hbody : ∀ (cdv : Value) (A : Around) (outer : List Env) (s : Shared) (H : Hp) (vs : List V) (Q : VK) (E : XK), Room k (A.deeper (envOfC qual (defScope st) s.heap.objs.size f cdv)) → sp vs H Q E →
      ∃ t, PSs (cxOf CX0 P w K mg base N qual (defScope st) f cdv A outer s H E).nox (defBody st) t ∧ t { nx := fun _ H' => Q .non H', rt := Q } (start N vs) H) : FnOk P w K mg base CX0 (k + 1) f fd ps sp := by
  obtain ⟨oc, od, kV, doc, pm, an, cdv, ct, osl, rfl, lk, hcd⟩ := F.ex
  refine fn_of lk hcd S len fun A outer s H vs Q E hr hsp => ?_
  obtain ⟨t, h, q⟩ := hbody cdv A outer s H vs Q E hr hsp
  exact ⟨t, h.nox, q⟩
/-- how its arguments bind (no defaults): h is «fun _ _ _ _ _ _ us hl => match us, hl with | [_, _], _ => rfl», one _ a parameter -/
theorem Fun.binds {x qual : Str} {st : Stmt} {f : Addr} {fd : FuncData} {ps : List Str} (F : Fun K x qual st f fd)
    (h : ∀ (kV doc pm : Value) (an : Option Addr) (cdv ct : Value) (us : List Value), us.length = ps.length → bindArgs (PySem.W.fnOf x qual (defArgs st) (defBody st) (defScope st) .none kV doc pm an cdv ct) ⟨us, []⟩ = pure (ps.zip us)) : Binds K fd ps [] := by
  obtain ⟨oc, od, kV, doc, pm, an, cdv, ct, osl, rfl, lk, hcd⟩ := F.ex
  exact .all (h kV doc pm an cdv ct)
theorem fun_mk {x qual : Str} {st : Stmt} {f : Addr} {oc : Value} {od an : Option Addr} {osl : Array (Option Value)} {kV doc pm cdv ct : Value} (l : K.lookup f = some ⟨oc, od, .func (PySem.W.fnOf x qual (defArgs st) (defBody st) (defScope st) .none kV doc pm an cdv ct), osl⟩)
    (c : PySem.W.codeIn K cdv qual = true) (k : PySem.W.keepIn K (.ref f) = true) : Fun K x qual st f (PySem.W.fnOf x qual (defArgs st) (defBody st) (defScope st) .none kV doc pm an cdv ct) := ⟨⟨oc, od, kV, doc, pm, an, cdv, ct, osl, rfl, l, c⟩, k⟩
end
theorem small1000 {n : Nat} (h : n ≤ 1000) : n < sizeLine := Nat.lt_of_le_of_lt h (by decide)

section
variable {X : Cx}
theorem pv (i : Nat) {x : Str} {pos : Pos} (hN : X.N[i]? = some x := by rfl) (hv : Vis X.env.scope x := by first | exact Or.inl rfl | exact Or.inr (Or.inl rfl) | exact Or.inr (Or.inr rfl)) (hd : (x == ("__debug__" : Str)) = false := by decide)
    (hcd : (x == ("__classdict__" : Str)) = false := by decide) : PE X (.Name x pos) (tVar i) := pe_var hN hv hd hcd
end

/-- all that was tracked is as it was -/
def Same (H H' : Hp) : Prop := ∀ b o, H b = some o → H' b = some o
theorem Same.refl (H : Hp) : Same H H := fun _ _ h => h
theorem Same.trans {H H1 H2 : Hp} (a : Same H H1) (b : Same H1 H2) : Same H H2 := fun c o h => b c o (a c o h)
theorem Same.free {H H' : Hp} (e : Same H H') {l : Addr} (h : H' l = Option.none) : H l = Option.none := by
  cases q : H l with
  | none => rfl
  | some o =>
    rw [e l o q] at h
    cases h
theorem Same.seq {K : PySem.W.Frag} {H H' : Hp} {a : Addr} {xs : List V} (e : Same H H') (h : SqL K H a xs) : SqL K H' a xs := by
  rcases h with (h | ⟨o, h⟩) | h
  · exact .inl (.inl (e _ _ h))
  · exact .inl (.inr ⟨o, e _ _ h⟩)
  · exact .inr h

end L2

set_option maxHeartbeats 4000000
namespace L2
open PySem PySem.Spec PyProof.Rows

/-! ### a list comprehension of one clause -/
def cloF (cells : List (Str × Addr)) : List (Str × NameKind) → List (Str × Addr) → List (Str × Addr)
  | [], acc => acc
  | (n, k) :: r, acc => if (k == NameKind.free) = true then (match cells.lookup n with | some c => cloF cells r ((n, c) :: acc) | none => cloF cells r acc) else cloF cells r acc
theorem closureFor_clo {scope : Scope} {env : Env} (h : ∀ y ∈ scope.names, y.2 = .free → ∃ c, env.cells.lookup y.1 = some c) : closureFor scope env = pure (cloF env.cells scope.names []) := by
  have key : ∀ (l : List (Str × NameKind)) (acc : List (Str × Addr)), (∀ y ∈ l, y.2 = .free → ∃ c, env.cells.lookup y.1 = some c) →
      (forIn l acc fun x s => if (x.snd == NameKind.free) = true then do
              let c ← cellOf env x.fst
              pure (ForInStep.yield ((x.fst, c) :: s))
            else pure (ForInStep.yield s)) = (pure (cloF env.cells l acc) : Sem _) := by
    intro l
    induction l with
    | nil => intro acc _; rfl
    | cons y r ih =>
      intro acc hy
      obtain ⟨n, k⟩ := y
      have ih' := fun a => ih a fun z hz => hy z (List.mem_cons_of_mem _ hz)
      by_cases hk : (k == NameKind.free) = true
      · obtain ⟨c, hc⟩ := hy (n, k) List.mem_cons_self (by simpa using hk)
        have hc' : env.cells.lookup n = some c := hc
        simp only [List.forIn_cons, hk, if_true, cellOf, hc', pure_bind, cloF]
        exact ih' _
      · simp only [List.forIn_cons, hk, if_false, pure_bind, cloF]
        exact ih' _
  simp only [closureFor]
  rw [key _ _ h]
  rfl
theorem cloF_of {cells : List (Str × Addr)} : ∀ {l : List (Str × NameKind)} {acc : List (Str × Addr)} {x : Str} {c : Addr}, (∀ x c, acc.lookup x = some c → cells.lookup x = some c) → (cloF cells l acc).lookup x = some c → cells.lookup x = some c
  | [], acc, x, c, h, e => h x c e
  | (n, k) :: r, acc, x, c, h, e => by
    unfold cloF at e
    split at e
    · split at e
      · rename_i d hd
        refine cloF_of (l := r) (acc := (n, d) :: acc) (fun y b hy => ?_) e
        rw [List.lookup_cons] at hy
        split at hy
        · rename_i z
          have zn : y = n := by simpa using z
          cases hy
          rw [zn]; exact hd
        · exact h y b hy
      · exact cloF_of h e
    · exact cloF_of h e
theorem cloF_acc {cells : List (Str × Addr)} {x : Str} : ∀ {l : List (Str × NameKind)} {acc : List (Str × Addr)}, (∃ c, acc.lookup x = some c) → ∃ c, (cloF cells l acc).lookup x = some c
  | [], acc, h => h
  | (n, k) :: r, acc, h => by
    unfold cloF
    split
    · split
      · rename_i d hd
        refine cloF_acc (l := r) ?_
        rw [List.lookup_cons]
        split
        · exact ⟨_, rfl⟩
        · exact h
      · exact cloF_acc h
    · exact cloF_acc h
theorem cloF_has {cells : List (Str × Addr)} {x : Str} : ∀ {l : List (Str × NameKind)} {acc : List (Str × Addr)}, l.lookup x = some .free → (∃ c, cells.lookup x = some c) → ∃ c, (cloF cells l acc).lookup x = some c
  | [], acc, h, _ => by simp at h
  | (n, k) :: r, acc, h, hc => by
    rw [List.lookup_cons] at h
    unfold cloF
    split at h
    · rename_i z
      have zn : x = n := by simpa using z
      cases h
      subst zn
      obtain ⟨c, hc⟩ := hc
      rw [if_pos (by decide), hc]
      refine cloF_acc ⟨c, ?_⟩
      rw [List.lookup_cons]
      simp
    · split
      · split
        · exact cloF_has h hc
        · exact cloF_has h hc
      · exact cloF_has h hc
theorem lookup_relabel_free {env : Env} : ∀ {names : List (Str × NameKind)} {x : Str}, names.lookup x = some .free →
    (names.map fun (n, k) => if (k == NameKind.free && env.scope.kind == .function && env.kindOf n == some .cell) then (n, NameKind.cell) else (n, k)).lookup x = some .cell ∨
    (names.map fun (n, k) => if (k == NameKind.free && env.scope.kind == .function && env.kindOf n == some .cell) then (n, NameKind.cell) else (n, k)).lookup x = some .free
  | [], _, h => by simp at h
  | (n, k) :: r, x, h => by
    have ih := @lookup_relabel_free env r x
    show List.lookup x ((if (k == NameKind.free && env.scope.kind == .function && env.kindOf n == some .cell) = true then (n, NameKind.cell) else (n, k)) :: _) = _ ∨ List.lookup x ((if (k == NameKind.free && env.scope.kind == .function && env.kindOf n == some .cell) = true then (n, NameKind.cell) else (n, k)) :: _) = _
    cases hx : x == n with
    | true =>
      simp only [List.lookup_cons, hx] at h
      cases h
      by_cases hc : (NameKind.free == NameKind.free && env.scope.kind == .function && env.kindOf n == some .cell) = true
      · rw [if_pos hc]; left; simp only [List.lookup_cons, hx]
      · rw [if_neg hc]; right; simp only [List.lookup_cons, hx]
    | false =>
      simp only [List.lookup_cons, hx] at h
      by_cases hc : (k == NameKind.free && env.scope.kind == .function && env.kindOf n == some .cell) = true
      · rw [if_pos hc]; simp only [List.lookup_cons, hx]; exact ih h
      · rw [if_neg hc]; simp only [List.lookup_cons, hx]; exact ih h
theorem lookup_relabel_back {env : Env} : ∀ {names : List (Str × NameKind)} {x : Str}, (∀ y ∈ names, y.2 ≠ NameKind.cell) →
    ((names.map fun (n, k) => if (k == NameKind.free && env.scope.kind == .function && env.kindOf n == some .cell) then (n, NameKind.cell) else (n, k)).lookup x = some .cell ∨
    (names.map fun (n, k) => if (k == NameKind.free && env.scope.kind == .function && env.kindOf n == some .cell) then (n, NameKind.cell) else (n, k)).lookup x = some .free) → names.lookup x = some .free
  | [], _, _, h => by simp at h
  | (n, k) :: r, x, hn, h => by
    have ih := @lookup_relabel_back env r x fun y hy => hn y (List.mem_cons_of_mem _ hy)
    have h' : List.lookup x ((if (k == NameKind.free && env.scope.kind == .function && env.kindOf n == some .cell) = true then (n, NameKind.cell) else (n, k)) :: (r.map fun (n, k) => if (k == NameKind.free && env.scope.kind == .function && env.kindOf n == some .cell) then (n, NameKind.cell) else (n, k))) = some .cell ∨ List.lookup x ((if (k == NameKind.free && env.scope.kind == .function && env.kindOf n == some .cell) = true then (n, NameKind.cell) else (n, k)) :: (r.map fun (n, k) => if (k == NameKind.free && env.scope.kind == .function && env.kindOf n == some .cell) then (n, NameKind.cell) else (n, k))) = some .free := h
    cases hx : x == n with
    | true =>
      simp only [List.lookup_cons, hx]
      by_cases hc : (k == NameKind.free && env.scope.kind == .function && env.kindOf n == some .cell) = true
      · have hk : k = NameKind.free := by
          rw [Bool.and_eq_true, Bool.and_eq_true] at hc
          simpa using hc.1.1
        rw [hk]
      · rw [if_neg hc] at h'
        simp only [List.lookup_cons, hx] at h'
        rcases h' with h' | h'
        · exact absurd (Option.some.inj h') (hn (n, k) List.mem_cons_self)
        · exact h'
    | false =>
      simp only [List.lookup_cons, hx]
      by_cases hc : (k == NameKind.free && env.scope.kind == .function && env.kindOf n == some .cell) = true
      · rw [if_pos hc] at h'; simp only [List.lookup_cons, hx] at h'; exact ih h'
      · rw [if_neg hc] at h'; simp only [List.lookup_cons, hx] at h'; exact ih h'

/-- the block's context -/
def blk (X : Cx) (Nc : List Str) (scope : Scope) (C : Addr) (s₀ : Shared) (H₀ : Hp) (ex : List Addr) : Cx :=
  { X with N := Nc, s₀ := s₀, H₀ := H₀, env := compEnvC scope (cloF X.env.cells scope.names []) C X.env, outer := X.stack, ex := ex, fn := fun _ => false, pn := [], xe := fun _ _ => False }
/-- the block's names: its own (none), or the slot of the outer one -/
def σof (cm : List (Option Nat)) (σ : St) : St := cm.map fun o => match o with
  | none => none
  | some i => (σ[i]?).getD none
/-- σ' knows no less than σ -/
def Wk (σ σ' : St) : Prop := σ.length = σ'.length ∧ ∀ (i : Nat) (v : V), σ[i]? = some (some v) → σ'[i]? = some (some v)
def tComp (wi : TI) (g : TG) (tc : TT) (te : TE) (cm : List (Option Nat)) : TE := fun σ H Q => wi σ H fun J H1 => ∃ W : Nat → Nat → List V → Hp → Prop, (∃ m, W 0 m [] H1) ∧ ∀ i m acc H, W i m acc H →
  (J.stop i H ∧ ∀ p, H p = none → Q (.ref p) (upd H p (.lst acc))) ∨
  (J.go i H ∧ acc.length < sizeLine ∧ ∀ x H', J.yld i H x H' → g x (σof cm σ) H' fun σ2 H2 => Wk (σof cm σ) σ2 ∧ tc σ2 H2 fun b H3 => if b = true then te σ2 H3 fun v H4 => ∃ m', m' < m ∧ W (i + 1) m' (acc ++ [v]) H4 else ∃ m', m' < m ∧ W (i + 1) m' acc H3)
/-- the tests of a clause -/
def PIf (X : Cx) (ifs : List Expr) (t : TT) : Prop :=
  ∀ (pins : List (Addr × Obj)) (s : Shared) (σ : St) (H : Hp) (Q : Bool → Hp → Prop), Inv X pins σ H s → t σ H Q →
    wpAny (model X.prog X.w) X.A (forIn ifs true fun c r => if r = true then do let ok ← isTrue c X.env (eval c X.env); pure (ForInStep.yield ok) else pure (ForInStep.yield r)) (TP X pins σ Q) X.xe s
def tYes : TT := fun _ H Q => Q true H
theorem pif_nil {X : Cx} : PIf X [] tYes := fun _ _ σ H _ I h => wpAny_pure ⟨H, I, h⟩
theorem pif_one {X : Cx} {c : Expr} {t : TT} (h : PT X c t) : PIf X [c] t := fun pins s σ H Q I q => wpAny_tests_one (h pins s σ H Q I q)

/-- a record of ours that was not tracked is tracked from here on -/
theorem Inv.track {X : Cx} {pins : List (Addr × Obj)} {σ : St} {H : Hp} {s : Shared} {D : Addr} {o : HO} (I : Inv X pins σ H s) (hn : H D = none) (h0 : X.s₀.heap.objs.size ≤ D) (hL : D ≠ X.env.locals)
    (hcl : ∀ x c, X.env.cells.lookup x = some c → c ≠ D) (hp : ∀ p ∈ X.pn ++ pins, p.1 ≠ D) (new : ObjOk X.prog X.w (upd H D o) s.heap D o) : Inv X pins σ (upd H D o) s := by
  have hb : ∀ b u, X.s₀.heap.get? b = some u → b ≠ D := fun b u e => Nat.ne_of_lt (Nat.lt_of_lt_of_le (Heap.lt_size e) h0)
  refine ⟨I.ok, I.os, I.bare, ⟨I.base.keep, I.base.slot, fun b u e n hx => ?_, I.base.there, fun b xs e => ?_, fun b u xs e => ?_, fun b ps e => ?_⟩, I.loc, I.cell, ?_, fun x c e => ?_, fun p hpp => ?_, fun b u e => ?_, I.len⟩
  · rw [upd_ne (hb b u e)]; exact I.base.free b u e n hx
  · have q := I.base.tups b xs e; rw [upd_ne (ne_of_none q hn)]; exact q
  · have q := I.base.frzs b u xs e; rw [upd_ne (ne_of_none q hn)]; exact q
  · obtain ⟨more, q⟩ := I.base.tbls b ps e; exact ⟨more, by rw [upd_ne (ne_of_none q hn)]; exact q⟩
  · rw [upd_ne (Ne.symm hL)]; exact I.free
  · rw [upd_ne (hcl x c e)]; exact I.freeC x c e
  · obtain ⟨a, b, c⟩ := I.pin p hpp
    exact ⟨a, by rw [upd_ne (hp p hpp)]; exact b, c⟩
  · by_cases hb : b = D
    · subst hb; rw [upd_same] at e; cases e; exact new
    · rw [upd_ne hb] at e
      exact (I.hok b u e).stay (fun c v _ q => q) (fun c q => by rw [upd_ne (ne_of_none q hn)]; exact q) fun c xs q => by rw [upd_ne (ne_of_none q hn)]; exact q

section
variable {X : Cx}
theorem pe_comp {tg iter elt : Expr} {ifs : List Expr} {scope : Scope} {pos : Pos} {Nc : List Str} {cm : List (Option Nat)} {wi : TI} {g : TG} {tc : TT} {te : TE}
    (hc : X.calm = true) (hi : PI X tg iter wi) (hkind : scope.kind = .function) (hcell : ∀ y ∈ scope.names, y.2 ≠ .cell) (hnames : ∀ y ∈ scope.names, y.2 = .local → scope.names.lookup y.1 = some .local)
    (hfree : ∀ y ∈ scope.names, y.2 = .free → X.env.kindOf y.1 = some .cell ∨ X.env.kindOf y.1 = some .free) (hlen : cm.length = Nc.length)
    (hcm : ∀ (j : Nat) (x : Str) (i : Nat), Nc[j]? = some x → cm[j]? = some (some i) → X.N[i]? = some x ∧ scope.names.lookup x = some .free ∧ (X.env.kindOf x = some .cell ∨ X.env.kindOf x = some .free))
    (hg : ∀ C s₀ H₀ ex, PG (blk X Nc scope C s₀ H₀ ex) tg g) (ht : ∀ C s₀ H₀ ex, PIf (blk X Nc scope C s₀ H₀ ex) ifs tc) (he : ∀ C s₀ H₀ ex, PE (blk X Nc scope C s₀ H₀ ex) elt te)
    (hs : ∀ x, foldedSetIterable iter X.env x = pure x := by intro _; rfl) : PE X (.ListComp elt [⟨tg, iter, ifs, 0⟩] scope pos) (tComp wi g tc te cm) := by
  intro pins s σ H Q I h
  rw [eval_ListComp]
  have hfr : ∀ y ∈ scope.names, y.2 = .free → ∃ c, X.env.cells.lookup y.1 = some c := fun y hy e => I.ok.has y.1 (hfree y hy e)
  refine wpAny_comprehension_free (use := none) rfl hs (closureFor_clo hfr) hkind hnames (thn (hi pins s σ H _ I h) fun v s1 h1 => thn h1 fun itv s2 h2 => ?_)
  obtain ⟨it, fp, tn, J, H2, e, I2, T, st2, f2, W, ⟨m0, w0⟩, turn⟩ := h2
  subst e
  refine wpAny_newObj_type (wpAny_newFunctionEnv hcell (by intro y hy; simp at hy) (fun h₁ hns₁ hsb₁ => ?_) hkind)
  dsimp only at hns₁ hsb₁ ⊢
  -- D: the new list; C: the block's names
  have hk3 : ∀ b u, s2.heap.get? b = some u → (s2.heap.push { cls := .type "list", dict := none, data := .seq ([] : List Value).toArray }).get? b = some u := fun b u q => Heap.get?_push_of_some _ q
  have I3 : Inv X pins σ H2 { s2 with heap := s2.heap.push { cls := .type "list", dict := none, data := .seq ([] : List Value).toArray }, toks := s2.toks } := I2.kept hk3
  have hD3 : (s2.heap.push { cls := .type "list", dict := none, data := .seq ([] : List Value).toArray }).get? s2.heap.objs.size = some { cls := .type "list", data := .seq ([] : List Value).toArray } := Heap.get?_push_size _ rfl
  have hCs : (s2.heap.push { cls := .type "list", dict := none, data := .seq ([] : List Value).toArray }).objs.size = s2.heap.objs.size + 1 := Heap.size_push _ _
  have hDn : H2 s2.heap.objs.size = none := I2.hok.fresh (Nat.le_refl _)
  have st3 : tn 0 (s2.heap.push { cls := .type "list", dict := none, data := .seq ([] : List Value).toArray }) := T.keep _ _ _ st2 fun b _ o q => hk3 b o q
  have fpD : ∀ b ∈ fp, b < s2.heap.objs.size := fun b hb => by
    obtain ⟨o, e, _⟩ := T.obj _ _ st2 b hb
    exact Heap.lt_size e
  have DX : FpOk X pins H2 s2.heap.objs.size := I2.fpOk (Nat.le_refl _) hDn
  generalize hs3 : s2.heap.push { cls := .type "list", dict := none, data := .seq ([] : List Value).toArray } = h3 at *
  generalize hDg : s2.heap.objs.size = D at *
  have exX : ∀ b ∈ D :: fp, FpOk X pins H2 b := fun b hb => by
    rcases List.mem_cons.mp hb with z | z
    · rw [z]; exact DX
    · exact f2 b z
  have exC : ∀ b ∈ D :: fp, b < h3.objs.size := fun b hb => by
    rcases List.mem_cons.mp hb with z | z
    · rw [z, hCs]; exact Nat.lt_succ_self _
    · rw [hCs]; exact Nat.lt_succ_of_lt (fpD b z)
  have exS : ∀ b ∈ D :: fp, b ∉ frs X.stack := fun b hb z => by
    obtain ⟨_, n1, n2, _⟩ := exX b hb
    rcases List.mem_cons.mp (I2.stkSub b z) with y | y
    · exact n1 y
    · exact n2 y
  have clo : ∀ x c, (cloF X.env.cells scope.names []).lookup x = some c → X.env.cells.lookup x = some c := fun x c e => cloF_of (acc := []) (fun _ _ z => by simp at z) e
  have keep1 : ∀ b u, h3.get? b = some u → h₁.get? b = some u := fun b u q =>
    (hsb₁.2 b (Nat.ne_of_lt (Heap.lt_size q))).trans (Heap.get?_push_of_some _ q)
  let s3 : Shared := { s2 with heap := h3 }
  let X' : Cx := blk X Nc scope h3.objs.size s3 H2 (D :: fp)
  have hX' : X' = blk X Nc scope h3.objs.size s3 H2 (D :: fp) := rfl
  have okX : X'.Ok := by
    refine ⟨I3.ok.mod, hkind, I3.ok.glob, I3.ok.blt, Nat.le_refl _, fun x y c e1 e2 => I3.ok.inj x y c (clo x c e1) (clo y c e2), fun x hx => ?_, fun x c e => (Bool.false_ne_true e).elim, I3.ok.hd, I3.ok.frames, .inl rfl, fun b hb => ⟨Nat.ne_of_lt (exC b hb), fun x c e => (exX b hb).2.2.2.2.1 x c (clo x c e)⟩,
      I3.bs, ?_, fun b o e hb => ?_, exS, I3.stack, I3.stkFree⟩
    · have hx' : scope.names.lookup x = some .free := lookup_relabel_back (env := X.env) hcell hx
      have hmem : (x, NameKind.free) ∈ scope.names := by
        have : ∀ (l : List (Str × NameKind)), l.lookup x = some .free → (x, NameKind.free) ∈ l := by
          intro l
          induction l with
          | nil => intro z; simp at z
          | cons a r ih =>
            obtain ⟨n, k⟩ := a
            intro z
            rw [List.lookup_cons] at z
            split at z
            · rename_i y
              have yn : x = n := by simpa using y
              cases z
              rw [yn]; exact List.mem_cons_self
            · exact List.mem_cons_of_mem _ (ih z)
        exact this _ hx'
      exact cloF_has hx' (hfr (x, .free) hmem rfl)
    · exact Nat.le_trans I3.ok.bsz I3.sz
    · rcases (exX b hb).2.2.2.1 with z | z
      · exact I3.ok.noex b o e z
      · exact absurd (Nat.lt_of_lt_of_le (Heap.lt_size (I3.ok.bs b o e).1) z) (Nat.lt_irrefl _)
  have hσl : (σof cm σ).length = Nc.length := by
    unfold σof
    rw [List.length_map]; exact hlen
  have I4 : Inv X' [] (σof cm σ) H2 { s2 with heap := h₁, toks := s2.toks + ([] : List (Str × Value)).length } := by
    refine ⟨okX, rfl, I3.bare, Un.kept keep1, ⟨_, hns₁, fun j x v e1 e2 e3 => ?_⟩, fun x c e => ?_, ?_, fun x c e => I3.freeC x c (clo x c e), (fun p hp => absurd (show p ∈ ([] : List (Addr × Obj)) from hp) (by simp)), I3.hok.kept keep1, hσl⟩
    · have e2' : ∃ i, cm[j]? = some (some i) ∧ σ[i]? = some (some v) := by
        unfold σof at e2
        rw [List.getElem?_map] at e2
        cases q : cm[j]? with
        | none => rw [q] at e2; simp at e2
        | some o =>
          rw [q] at e2
          cases o with
          | none => simp at e2
          | some i =>
            refine ⟨i, rfl, ?_⟩
            simp only [Option.map_some, Option.some.injEq] at e2
            cases q2 : σ[i]? with
            | none => rw [q2] at e2; simp at e2
            | some o2 => rw [q2] at e2; simp at e2; rw [e2]
      obtain ⟨i, ej, ei⟩ := e2'
      obtain ⟨n1, n2, n3⟩ := hcm j x i e1 ej
      obtain ⟨m, hn, hl⟩ := I3.loc
      have n3' : Vis X.env.scope x := by
        rcases n3 with z | z
        · exact .inr (.inl z)
        · exact .inr (.inr z)
      obtain ⟨u, r, l⟩ := hl i x v n1 ei n3'
      refine ⟨u, r, ?_⟩
      rcases l with ⟨l, _⟩ | ⟨_, c, ec, ic⟩
      · rcases n3 with z | z
        · rw [l] at z; cases z
        · rw [l] at z; cases z
      · obtain ⟨c', ec'⟩ := cloF_has (cells := X.env.cells) (acc := []) n2 ⟨c, ec⟩
        have hcc := clo x c' ec'
        rw [ec] at hcc; cases hcc
        obtain ⟨oc, hoc, hdc⟩ := ic
        refine .inr ⟨?_, c, ec', oc, keep1 _ _ hoc, hdc⟩
        exact lookup_relabel_free (env := X.env) n2
    · obtain ⟨v, oc, hoc, hdc⟩ := I3.cell x c (clo x c e)
      exact ⟨v, oc, keep1 _ _ hoc, hdc⟩
    · exact I3.hok.fresh (Nat.le_refl _)
  have stat : ∀ {H' : Hp} {pl : List (Addr × Obj)}, (∀ b ∈ fp, H' b = none) → (∀ p ∈ pl, p.1 = D) → ∀ b ∈ fp, FpOk X' pl H' b := fun {H' pl} hn hpl b hb =>
    ⟨hn b hb, Nat.ne_of_lt (exC b (List.mem_cons_of_mem _ hb)), exS b (List.mem_cons_of_mem _ hb), .inl (List.mem_cons_of_mem _ hb), fun x c e => (f2 b hb).2.2.2.2.1 x c (clo x c e), fun p hp z => by
      have : p ∈ pl := (List.mem_append.mp hp).elim (fun z => absurd (show p ∈ ([] : List (Addr × Obj)) from z) (by simp)) fun z => z
      have e := hpl p this
      rw [e] at z
      exact absurd (fpD b hb) (by rw [← z]; exact Nat.lt_irrefl _)⟩
  have hDC : D ≠ h3.objs.size := by rw [hCs]; exact Nat.ne_of_lt (Nat.lt_succ_self _)
  have hDs : D ∉ frs X.stack := exS D List.mem_cons_self
  -- the loop
  have loop : ∀ s5 : Shared, s5 = { s2 with heap := h₁, toks := s2.toks + ([] : List (Str × Value)).length } →
      codeAny (model X.prog X.w) X.A (.compLoop (.ListComp elt [⟨tg, iter, ifs, 0⟩] scope pos) 0 (.ref it) (.ref D) (compEnvC scope (cloF X.env.cells scope.names []) h3.objs.size X.env))
        (compPost (model X.prog X.w) X.A X.xe none (EP X pins σ Q) (.ref D) h3.objs.size) s5 := by
    rintro s5 rfl
    refine codeAny_loop rfl (fun n s' => ∃ i acc its k H', Inv X' [] (σof cm σ) H' s' ∧ tn i s'.heap ∧ (∀ b ∈ fp, H' b = none) ∧ s'.heap.get? D = some { cls := .type "list", data := .seq (List.toArray its) k } ∧ H' D = none ∧ Vals acc its ∧ acc.length ≤ sizeLine ∧ W i n acc H') (fun n s' hI => ?_) m0
      ⟨0, [], [], 0, H2, I4, T.keep _ _ _ st3 fun b _ o q => keep1 b o q, fun b hb => (f2 b hb).1, keep1 _ _ hD3, hDn, .nil, Nat.zero_le _, w0⟩
    obtain ⟨i, acc, its, k, H5, J5, t5, fr5, d5, dn5, va5, ac5, w5⟩ := hI
    show wpAny _ X.A ((compTurn (.ListComp elt [⟨tg, iter, ifs, 0⟩] scope pos) 0 (.ref it) (.ref D) (compEnvC scope (cloF X.env.cells scope.names []) h3.objs.size X.env)).onRaise (fun x => do noteFrame x (compEnvC scope (cloF X.env.cells scope.names []) h3.objs.size X.env); theTreesLotGoes x)) _ _ s'
    refine wpAny_noted ?_
    rw [compTurn_list]
    have nocell : ∀ v, ({ cls := .type "list", data := .seq (List.toArray its) k } : Obj).data ≠ .cell v := fun v z => nomatch z
    have P5 : Inv X' [(D, { cls := .type "list", data := .seq (List.toArray its) k })] (σof cm σ) H5 s' := J5.pins_of fun p hp => by
      have e : p = (D, { cls := .type "list", data := .seq (List.toArray its) k }) := by simpa using hp
      subst e
      exact ⟨d5, dn5, hDC, hDs, nocell⟩
    have pl1 : ∀ p ∈ [((D, { cls := .type "list", data := .seq (List.toArray its) k }) : Addr × Obj)], p.1 = D := fun p hp => by
      have e : p = (D, { cls := .type "list", data := .seq (List.toArray its) k }) := by simpa using hp
      rw [e]
    rcases turn i n acc H5 w5 with ⟨stop, qn⟩ | ⟨go, hsz, step⟩
    · refine wpAny_bind (wpAny_standAt (wpAny_bind (wpAny_mono (T.done X' rfl rfl rfl hc i _ s' _ H5 (fun _ _ => False) P5 (stat fr5 pl1) t5 stop) (fun r s6 ⟨hr, J6⟩ => ?_) fun _ _ f => f.elim)))
      subst hr
      refine wpAny_pure ?_
      obtain ⟨mC, hnC, _⟩ := J6.loc
      refine ⟨mC, hnC, fun h' hsb => ?_⟩
      have hCn : H5 h3.objs.size = none := J6.free
      have toh : ∀ b u, b ≠ h3.objs.size → s6.heap.get? b = some u → h'.get? b = some u := fun b u hb q => (hsb.2 b hb).trans q
      have hok' : HOk X.prog X.w H5 h' := fun a o e => (J6.hok a o e).stay (fun b u hb q => toh b u (by
        rintro rfl
        rcases hb with z | z
        · rw [← z, hCn] at e; cases e
        · rw [hCn] at z; cases z) q) (fun _ q => q) fun _ _ q => q
      have ltC : ∀ {b : Addr} {u : Obj}, h3.get? b = some u → b ≠ h3.objs.size := fun q => Nat.ne_of_lt (Heap.lt_size q)
      have un' : Un (frs X.stack) (D :: fp) H2 H5 h3 h' := by
        have u := J6.base
        refine ⟨fun b o e n hb hx => toh b o (ltC e) (u.keep b o e n hb hx), fun b o e n hb hx => ?_, u.free, fun b o e hx => ?_, u.tups, u.frzs, u.tbls⟩
        · obtain ⟨sl, q⟩ := u.slot b o e n hb hx
          exact ⟨sl, toh b _ (ltC e) q⟩
        · obtain ⟨o', q⟩ := u.there b o e hx
          exact ⟨o', toh b _ (ltC e) q⟩
      have J7 : Inv X pins σ H5 { s6 with heap := h' } := Inv.call' (s' := { s6 with heap := h' }) (ch := D :: fp) I3 J6.os un' hok' J6.bare fun b hb => by
        obtain ⟨_, n1, n2, n3, n4, n5⟩ := exX b hb
        exact ⟨n3, n1, n4, n5⟩
      obtain ⟨dg, dg2, _⟩ := J6.pin (D, { cls := .type "list", data := .seq (List.toArray its) k }) (by simp)
      obtain ⟨_, n1, n2, n3, n4, n5⟩ := exX D List.mem_cons_self
      have n3' : X.s₀.heap.objs.size ≤ D := by
        have := I2.sz
        rw [hDg] at this
        exact this
      refine ⟨.ref D, _, J7.track (o := .lst acc) dg2 n3' n1 n4 n5 ⟨ac5, its, k, va5, toh _ _ hDC dg⟩, rfl, qn D dg2⟩
    · refine wpAny_bind (wpAny_standAt (wpAny_bind (wpAny_mono (T.item X' rfl rfl rfl hc i _ s' _ H5 (fun _ _ => False) P5 (stat fr5 pl1) t5 go) (fun r s6 ⟨u, hr, h6⟩ => ?_) fun _ _ f => f.elim)))
      subst hr
      refine wpAny_bind (wpAny_mono h6 (fun _ s7 ⟨x, H7, J7, r7, y7, t7, fr7⟩ => ?_) fun _ _ f => f.elim)
      have P7 := J7.pinned (stat fr7 pl1) (T.obj _ _ t7)
      refine wpAny_bind (wpAny_mono (hg _ _ _ _ _ s7 _ H7 x u _ P7 r7 (step x H7 y7)) (fun _ s8 ⟨σ8, H8, J8, wk8, q8⟩ => ?_) fun _ _ f => f.elim)
      refine wpAny_bind (wpAny_mono (ht _ _ _ _ _ s8 σ8 H8 _ J8 q8) (fun b s9 ⟨H9, J9, q9⟩ => ?_) fun _ _ f => f.elim)
      have back : ∀ {Ha : Hp} {sa : Shared}, Inv X' ([(D, { cls := .type "list", data := .seq (List.toArray its) k })] ++ pinsAt fp s7.heap) σ8 Ha sa →
          Inv X' [] (σof cm σ) Ha sa ∧ tn (i + 1) sa.heap ∧ (∀ b ∈ fp, Ha b = none) ∧ sa.heap.get? D = some { cls := .type "list", data := .seq (List.toArray its) k } ∧ Ha D = none := fun {Ha sa} Ja => by
        refine ⟨(Ja.weak wk8.1 wk8.2).pins_of fun p hp => absurd hp (by simp), T.keep _ _ _ t7 fun b hb o e => (Ja.pin (b, o) (List.mem_append_right _ (List.mem_append_right _ (mem_pinsAt hb e)))).1, fun b hb => ?_, ?_⟩
        · obtain ⟨o, e, d⟩ := T.obj _ _ t7 b hb
          exact (Ja.pin (b, o) (List.mem_append_right _ (List.mem_append_right _ (mem_pinsAt hb e)))).2.1
        · obtain ⟨z1, z2, _⟩ := Ja.pin (D, { cls := .type "list", data := .seq (List.toArray its) k }) (by simp)
          exact ⟨z1, z2⟩
      cases b with
      | false =>
        simp only [Bool.false_eq_true, if_false] at q9 ⊢
        obtain ⟨m', hm, w'⟩ := q9
        obtain ⟨z0, z1, z2, z3, z4⟩ := back J9
        exact wpAny_pure ⟨rfl, m', hm, i + 1, acc, its, k, H9, z0, z1, z2, z3, z4, va5, ac5, w'⟩
      | true =>
        simp only [if_true] at q9 ⊢
        refine wpAny_bind (wpAny_bind (wpAny_mono (he _ _ _ _ _ s9 σ8 H9 _ J9 q9) (fun y s10 ⟨v, H10, J10, rv, q10⟩ => wpAny_bind ?_) fun _ _ f => f.elim))
        obtain ⟨m', hm, w'⟩ := q10
        obtain ⟨z0, z1, z2, z3, z4⟩ := back J10
        have hli := va5.length
        refine call_meets F.slot_list_append ⟨_, z3, rfl⟩ F.entry_list_append (F.args_list_append_2 _ _) (PySem.list_append D its.toArray k y (by rw [List.size_toArray]; omega)) ⟨z3, ?_⟩
        obtain ⟨k', q⟩ : ∃ k', (s10.heap.update D (Obj.mapSeq (·.push y))).get? D = some { cls := .type "list", data := .seq (List.toArray (its ++ [y])) k' } := by
          have q := PySem.IsL.update z3 (·.push y)
          have e : its.toArray.push y = (its ++ [y]).toArray := by simp
          rw [e] at q
          exact ⟨_, q⟩
        refine wpAny_pure (wpAny_pure ⟨rfl, m', hm, i + 1, acc ++ [v], its ++ [y], k', H10, z0.turned (it := D) (fun b o hb hu => (Heap.get?_update_other s10.heap (Obj.mapSeq (·.push y)) (Ne.symm hb)).trans hu) z4 hDC (.inl List.mem_cons_self) (fun x c e => (exX D List.mem_cons_self).2.2.2.2.1 x c (clo x c e)) (fun p hp => absurd (show p ∈ ([] : List (Addr × Obj)) from hp) (by simp)),
          T.keep _ _ _ z1 fun b hb o e => (Heap.get?_update_other s10.heap (Obj.mapSeq (·.push y)) (Nat.ne_of_gt (fpD b hb))).trans e, z2, q, z4, va5.append (.cons rv .nil), by rw [List.length_append, List.length_singleton]; omega, w'⟩)
  exact codeAny_compStart_list (loop _ rfl) (T.self X.A 0 _ _ _ (T.keep _ _ _ st3 fun b _ o q => keep1 b o q) (loop _ rfl))
end
end L2

namespace L2
open PySem PySem.Spec PyProof.Rows

/-- [f k for k in range(..)], no test, nothing made -/
theorem comp_range_map {lo : Int} {n : Nat} {te : TE} {cm : List (Option Nat)} {σ : St} {H : Hp} {Q : VK} (f : Nat → V) (hn : n ≤ sizeLine) {j : Nat} (hj : (σof cm σ)[j]? = some none)
    (hs : ∀ i, i < n → ∀ N : VK, N (f i) H → te ((σof cm σ).set j (some (.int (lo + i)))) H N)
    (hd : ∀ p, H p = none → Q (.ref p) (upd H p (.lst ((List.range n).map f)))) :
    ∃ W : Nat → Nat → List V → Hp → Prop, (∃ m, W 0 m [] H) ∧ ∀ i m acc H, W i m acc H →
      ((Itr lo n).stop i H ∧ ∀ p, H p = none → Q (.ref p) (upd H p (.lst acc))) ∨
      ((Itr lo n).go i H ∧ acc.length < sizeLine ∧ ∀ x H', (Itr lo n).yld i H x H' → gName j x (σof cm σ) H' fun σ2 H2 => Wk (σof cm σ) σ2 ∧ tYes σ2 H2 fun b H3 => if b = true then te σ2 H3 fun v H4 => ∃ m', m' < m ∧ W (i + 1) m' (acc ++ [v]) H4 else ∃ m', m' < m ∧ W (i + 1) m' acc H3) := by
  refine ⟨fun i m acc H' => m = n - i ∧ i ≤ n ∧ H' = H ∧ acc = (List.range i).map f, ⟨n, by simp, Nat.zero_le _, rfl, rfl⟩, ?_⟩
  rintro i m acc H' ⟨rfl, hi, rfl, rfl⟩
  by_cases hlt : i < n
  · refine .inr ⟨hlt, by rw [List.length_map, List.length_range]; omega, fun x H' y => ?_⟩
    obtain ⟨e, y⟩ := y
    subst e y
    refine ⟨⟨by simp, fun k v e => ?_⟩, ?_⟩
    · by_cases hk : j = k
      · subst hk; rw [hj] at e; cases e
      · rw [List.getElem?_set_ne hk]; exact e
    · unfold tYes; dsimp only
      split
      · refine hs i hlt _ ⟨n - (i + 1), by omega, rfl, hlt, rfl, ?_⟩
        rw [List.range_succ, List.map_append]; rfl
      · rename_i z; exact absurd rfl z
  · have e : i = n := by omega
    subst e
    exact .inl ⟨Nat.le_refl _, hd⟩
section
variable {X : Cx}
/-! ### isinstance(x, T), T a built-in type -/
def rIsi (K : PySem.W.Frag) : List V → Hp → VK → Prop := fun xs H Q => ∃ x n t b, xs = [x, .ty n] ∧ TyOf K H x t ∧ PySem.W.kitOne K t (.type n) = some b ∧ Q (.bl b) H
theorem call_isi : CallR X (.builtin "isinstance") (rIsi X.K) := by
  intro pins s σ H xs us Q I r h
  obtain ⟨x, n, t, b, rfl, ty, e, q⟩ := h
  obtain ⟨u, v, rfl, ru, rv⟩ := vals2 r
  cases rv
  exact isinst_ok I ru ty e fun tk => ⟨.bl b, H, I.tok tk, rfl, q⟩
theorem kit_same {K : PySem.W.Frag} {n : String} : PySem.W.kitOne K (.type n) (.type n) = some true := by
  unfold PySem.W.kitOne
  rw [if_pos (by simp)]
theorem kit_int_bool {K : PySem.W.Frag} : PySem.W.kitOne K (.type "int") (.type "bool") = some false := by
  with_unfolding_all rfl
end
end L2

namespace L2
open PySem PySem.Spec PyProof.Rows
theorem bo_len : bootBuiltins "len" = some (.builtin "len") := by decide +kernel
theorem bo_isinstance : bootBuiltins "isinstance" = some (.builtin "isinstance") := by decide +kernel
theorem bo_min : bootBuiltins "min" = some (.builtin "min") := by decide +kernel
theorem bo_sorted : bootBuiltins "sorted" = some (.builtin "sorted") := by decide +kernel
theorem bo_int : bootBuiltins "int" = some (.type "int") := by decide +kernel
theorem bo_bool : bootBuiltins "bool" = some (.type "bool") := by decide +kernel
theorem bo_list : bootBuiltins "list" = some (.type "list") := by decide +kernel
theorem bo_tuple : bootBuiltins "tuple" = some (.type "tuple") := by decide +kernel
theorem bo_set : bootBuiltins "set" = some (.type "set") := by decide +kernel
theorem bo_range : bootBuiltins "range" = some (.type "range") := by decide +kernel
/-- a def of the text, as its callers know it -/
structure Def (K : PySem.W.Frag) (mg : Str → Option Value) (x : Str) (st : Stmt) (ps : List Str) (f : Addr) (fd : FuncData) : Prop where
  m : mg x = some (.ref f)
  F : Fun K x x st f fd
  b : Binds K fd ps []
/-- the checks of a comprehension's names, by computing -/
def freeOk (X : Cx) (scope : Scope) : Bool := scope.names.all fun y => y.2 != .free || (X.env.kindOf y.1 == some .cell || X.env.kindOf y.1 == some .free)
def cmOk (X : Cx) (scope : Scope) (Nc : List Str) (cm : List (Option Nat)) : Bool := (Nc.zip cm).all fun p => match p.2 with
  | none => true
  | some i => X.N[i]? == some p.1 && (scope.names.lookup p.1 == some .free && (X.env.kindOf p.1 == some .cell || X.env.kindOf p.1 == some .free))
theorem pe_lc {X : Cx} {tg iter elt : Expr} {ifs : List Expr} {scope : Scope} {pos : Pos} (Nc : List Str) (cm : List (Option Nat)) {wi : TI} {g : TG} {tc : TT} {te : TE}
    (hi : PI X tg iter wi) (hg : ∀ C s₀ H₀ ex, PG (blk X Nc scope C s₀ H₀ ex) tg g) (ht : ∀ C s₀ H₀ ex, PIf (blk X Nc scope C s₀ H₀ ex) ifs tc) (he : ∀ C s₀ H₀ ex, PE (blk X Nc scope C s₀ H₀ ex) elt te)
    (hc : X.calm = true := by rfl) (hkind : scope.kind = .function := by rfl) (hcell : ∀ y ∈ scope.names, y.2 ≠ .cell := by decide +kernel) (hnames : ∀ y ∈ scope.names, y.2 = .local → scope.names.lookup y.1 = some .local := by decide +kernel)
    (hfree : freeOk X scope = true := by rfl) (hlen : cm.length = Nc.length := by rfl) (hcm : cmOk X scope Nc cm = true := by rfl)
    (hs : ∀ x, foldedSetIterable iter X.env x = pure x := by intro _; rfl) : PE X (.ListComp elt [⟨tg, iter, ifs, 0⟩] scope pos) (tComp wi g tc te cm) := by
  refine pe_comp hc hi hkind hcell hnames (fun y hy e => ?_) hlen (fun j x i e1 e2 => ?_) hg ht he hs
  · have h := List.all_eq_true.mp hfree y hy
    rw [e] at h
    simpa using h
  · have hj : (Nc.zip cm)[j]? = some (x, some i) := by
      rw [List.getElem?_zip_eq_some]; exact ⟨e1, e2⟩
    have h := List.all_eq_true.mp hcm _ (List.mem_of_getElem? hj)
    simpa using h
end L2

namespace L2
open PySem PySem.Spec PyProof.Rows
theorem cxOf_K {CX : CXT} {P : Program} {w : World} {K : PySem.W.Frag} {mg : Str → Option Value} {base : Heap} {N : List Str} {qual : Str} {scope : Scope} {f : Addr} {cd : Value} {A : Around} {outer : List Env} {s : Shared} {H : Hp} {E : XK} :
    (cxOf CX P w K mg base N qual scope f cd A outer s H E).K = K := rfl
theorem start_eq (N : List Str) (vs : List V) : L2.start N vs = vs.map some ++ List.replicate (N.length - vs.length) none := rfl
end L2
namespace L2
open PySem PySem.Spec PyProof.Rows
theorem atI_int {ns : List Int} {k : Int} (h0 : 0 ≤ k) (h1 : k < ns.length) : atI (ns.map V.int) k = some (.int (ns.getD k.toNat 0)) := by
  have hl : k.toNat < ns.length := by omega
  have q : (ns.map V.int)[k.toNat]? = some (.int (ns.getD k.toNat 0)) := by
    rw [List.getElem?_map, List.getD_eq_getElem?_getD, List.getElem?_eq_getElem hl]
    rfl
  have q2 := atI_nat q
  rw [show ((k.toNat : Nat) : Int) = k by omega] at q2
  exact q2
theorem atI_int' {ns : List Int} {k : Nat} (h1 : k < ns.length) : atI (ns.map V.int) (k : Int) = some (.int (ns.getD k 0)) := by
  have := atI_int (ns := ns) (k := (k : Int)) (by omega) (by omega)
  simpa using this
theorem getD_out {ns : List Int} {k : Nat} (h : ns.length ≤ k) : ns.getD k 0 = 0 := by
  rw [List.getD_eq_getElem?_getD, List.getElem?_eq_none_iff.mpr h]; rfl
/-- a good list of depths -/
structure Shaft (ds : List Int) : Prop where
  l2 : 2 ≤ ds.length
  l6 : ds.length ≤ 6
  lo : ∀ d ∈ ds, 0 ≤ d
  hi : ∀ d ∈ ds, d ≤ 500
  up : ds.Pairwise (· < ·)
theorem Shaft.get {ds : List Int} (h : Shaft ds) {i : Nat} (hi : i < ds.length) : 0 ≤ ds.getD i 0 ∧ ds.getD i 0 ≤ 500 := by
  rw [List.getD_eq_getElem?_getD, List.getElem?_eq_getElem hi, Option.getD_some]
  exact ⟨h.lo _ (List.getElem_mem hi), h.hi _ (List.getElem_mem hi)⟩
theorem Shaft.lt {ds : List Int} (h : Shaft ds) {i j : Nat} (hij : i < j) (hj : j < ds.length) : ds.getD i 0 < ds.getD j 0 := by
  have hi : i < ds.length := Nat.lt_trans hij hj
  rw [List.getD_eq_getElem?_getD, List.getElem?_eq_getElem hi, List.getD_eq_getElem?_getD, List.getElem?_eq_getElem hj, Option.getD_some, Option.getD_some]
  exact List.pairwise_iff_getElem.mp h.up i j hi hj hij
/-- the last depth -/
def whole (ds : List Int) : Int := ds.getD (ds.length - 1) 0
theorem Shaft.le_whole {ds : List Int} (h : Shaft ds) {d : Int} (hd : d ∈ ds) : d ≤ whole ds := by
  obtain ⟨i, hi, rfl⟩ := List.getElem_of_mem hd
  have e : ds[i] = ds.getD i 0 := by rw [List.getD_eq_getElem?_getD, List.getElem?_eq_getElem hi]; rfl
  rw [e]
  unfold whole
  by_cases hl : i = ds.length - 1
  · rw [hl]; exact Int.le_refl _
  · exact Int.le_of_lt (h.lt (by omega) (by have := h.l2; omega))
theorem Shaft.whole_mem {ds : List Int} (h : Shaft ds) : whole ds ∈ ds := by
  have hl := h.l2
  unfold whole
  rw [List.getD_eq_getElem?_getD, List.getElem?_eq_getElem (by omega : ds.length - 1 < ds.length), Option.getD_some]
  exact List.getElem_mem _
theorem Shaft.whole0 {ds : List Int} (h : Shaft ds) : 0 < whole ds := by
  have h1 := h.lt (i := 0) (j := ds.length - 1) (by have := h.l2; omega) (by have := h.l2; omega)
  have h2 := (h.get (i := 0) (by have := h.l2; omega)).1
  unfold whole; omega
/-- the made list with evenly spaced depths -/
theorem Shaft.even {n : Nat} {g : Int} (h2 : 2 ≤ n) (h6 : n ≤ 6) (g1 : 1 ≤ g) (g2 : g ≤ 100) : Shaft ((List.range n).map fun (i : Nat) => g * (i : Int)) := by
  refine ⟨by simpa using h2, by simpa using h6, fun d hd => ?_, fun d hd => ?_, ?_⟩
  · obtain ⟨i, hi, rfl⟩ := List.mem_map.mp hd
    exact Int.mul_nonneg (by omega) (by omega)
  · obtain ⟨i, hi, rfl⟩ := List.mem_map.mp hd
    have hi' := List.mem_range.mp hi
    have a : g * (i : Int) ≤ g * 5 := Int.mul_le_mul_of_nonneg_left (by omega) (by omega)
    omega
  · rw [List.pairwise_map]
    refine List.Pairwise.imp_of_mem (fun {a b} ha hb hab => ?_) List.pairwise_lt_range
    exact Int.mul_lt_mul_of_pos_left (by omega) (by omega)
/-- a made list so far: rising, from 0, its last one at most l -/
structure Rising (ds : List Int) (l : Int) : Prop where
  lo : ∀ d ∈ ds, 0 ≤ d
  hi : ∀ d ∈ ds, d ≤ l
  up : ds.Pairwise (· < ·)
  l0 : -1 ≤ l
theorem Rising.nil : Rising [] (-1) := ⟨by simp, by simp, List.Pairwise.nil, by omega⟩
theorem Rising.snoc {ds : List Int} {l r : Int} (h : Rising ds l) (h0 : 0 ≤ r) : Rising (ds ++ [l + 1 + r]) (l + 1 + r) := by
  have l0 := h.l0
  refine ⟨fun d hd => ?_, fun d hd => ?_, ?_, by omega⟩
  · rcases List.mem_append.mp hd with z | z
    · exact h.lo d z
    · have : d = l + 1 + r := by simpa using z
      omega
  · rcases List.mem_append.mp hd with z | z
    · have := h.hi d z; omega
    · have : d = l + 1 + r := by simpa using z
      omega
  · rw [List.pairwise_append]
    refine ⟨h.up, by simp, fun a ha b hb => ?_⟩
    have hb' : b = l + 1 + r := by simpa using hb
    have := h.hi a ha; omega
theorem Rising.shaft {ds : List Int} {l : Int} (h : Rising ds l) (hl : l ≤ 500) (h2 : 2 ≤ ds.length) (h6 : ds.length ≤ 6) : Shaft ds :=
  ⟨h2, h6, h.lo, fun d hd => Int.le_trans (h.hi d hd) hl, h.up⟩
/-- the first made 0, the last 500 -/
theorem Shaft.ends {ds : List Int} (h : Shaft ds) : Shaft ([0] ++ (ds.drop 1).take (ds.length - 1 - 1) ++ [500]) := by
  have l2 := h.l2
  have l6 := h.l6
  have hlen : ((ds.drop 1).take (ds.length - 1 - 1)).length = ds.length - 2 := by
    rw [List.length_take, List.length_drop]; omega
  have hmem : ∀ d, d ∈ (ds.drop 1).take (ds.length - 1 - 1) → 0 < d ∧ d < 500 := fun d hd => by
    obtain ⟨i, hi, rfl⟩ := List.getElem_of_mem hd
    rw [hlen] at hi
    have e : ((ds.drop 1).take (ds.length - 1 - 1))[i]'(by rw [hlen]; exact hi) = ds.getD (1 + i) 0 := by
      rw [List.getElem_take, List.getElem_drop, List.getD_eq_getElem?_getD, List.getElem?_eq_getElem (by omega)]
      rfl
    rw [e]
    have a := h.lt (i := 0) (j := 1 + i) (by omega) (by omega)
    have b := h.lt (i := 1 + i) (j := ds.length - 1) (by omega) (by omega)
    have c := (h.get (i := 0) (by omega)).1
    have d := (h.get (i := ds.length - 1) (by omega)).2
    omega
  refine ⟨by simp [hlen] <;> omega, by simp [hlen] <;> omega, fun d hd => ?_, fun d hd => ?_, ?_⟩
  · rcases List.mem_append.mp hd with z | z
    · rcases List.mem_append.mp z with z | z
      · have : d = 0 := by simpa using z
        omega
      · have := hmem d z; omega
    · have : d = 500 := by simpa using z
      omega
  · rcases List.mem_append.mp hd with z | z
    · rcases List.mem_append.mp z with z | z
      · have : d = 0 := by simpa using z
        omega
      · have := hmem d z; omega
    · have : d = 500 := by simpa using z
      omega
  · rw [List.pairwise_append, List.pairwise_append]
    refine ⟨⟨by simp, (h.up.drop).take, fun a ha b hb => ?_⟩, by simp, fun a ha b hb => ?_⟩
    · have ha' : a = 0 := by simpa using ha
      have := hmem b hb; omega
    · have hb' : b = 500 := by simpa using hb
      rcases List.mem_append.mp ha with z | z
      · have : a = 0 := by simpa using z
        omega
      · have := hmem a z; omega
end L2

namespace L2
open PySem PySem.Spec PyProof.Rows
/-! ### loops and comprehensions kept whole in a reading -/
def LoopJ (J : It) (g : TG) (tb : TS) (D : Ends) (σ : St) (H1 : Hp) : Prop := ∃ W : Nat → Nat → St → Hp → Prop, (∃ m, W 0 m σ H1) ∧ ∀ i m σ H, W i m σ H →
  (J.stop i H ∧ D.nx σ H) ∨ (J.go i H ∧ ∃ N : St → Hp → Prop, (∀ σ' H', N σ' H' → ∃ m', m' < m ∧ W (i + 1) m' σ' H') ∧ ∀ x H', J.yld i H x H' → g x σ H' fun σ2 H2 => tb { D with nx := N, ct := N, bk := D.nx } σ2 H2)
theorem tFor_eq (wi : TI) (g : TG) (tb : TS) (D : Ends) (σ : St) (H : Hp) : tFor wi g tb D σ H = wi σ H fun J H1 => LoopJ J g tb D σ H1 := rfl
def CompJ (J : It) (g : TG) (tc : TT) (te : TE) (cm : List (Option Nat)) (σ : St) (Q : VK) (H1 : Hp) : Prop := ∃ W : Nat → Nat → List V → Hp → Prop, (∃ m, W 0 m [] H1) ∧ ∀ i m acc H, W i m acc H →
  (J.stop i H ∧ ∀ p, H p = none → Q (.ref p) (upd H p (.lst acc))) ∨
  (J.go i H ∧ acc.length < sizeLine ∧ ∀ x H', J.yld i H x H' → g x (σof cm σ) H' fun σ2 H2 => Wk (σof cm σ) σ2 ∧ tc σ2 H2 fun b H3 => if b = true then te σ2 H3 fun v H4 => ∃ m', m' < m ∧ W (i + 1) m' (acc ++ [v]) H4 else ∃ m', m' < m ∧ W (i + 1) m' acc H3)
theorem tComp_eq (wi : TI) (g : TG) (tc : TT) (te : TE) (cm : List (Option Nat)) (σ : St) (H : Hp) (Q : VK) : tComp wi g tc te cm σ H Q = wi σ H fun J H1 => CompJ J g tc te cm σ Q H1 := rfl
theorem loop_range {lo : Int} {n : Nat} {g : TG} {tb : TS} {D : Ends} {σ : St} {H : Hp} (Pv : Nat → St → Hp → Prop) (h0 : Pv 0 σ H)
    (hs : ∀ i σ H, i < n → Pv i σ H → g (.int (lo + i)) σ H fun σ2 H2 => tb { D with nx := Pv (i + 1), ct := Pv (i + 1), bk := D.nx } σ2 H2) (hd : ∀ σ H, Pv n σ H → D.nx σ H) : LoopJ (Itr lo n) g tb D σ H := for_range Pv h0 hs hd
theorem loop_list {K : PySem.W.Frag} {a : Addr} (xs : List V) {g : TG} {tb : TS} {D : Ends} {σ : St} {H : Hp} (Pv : Nat → St → Hp → Prop) (h0 : Pv 0 σ H) (hl : ∀ i σ H, i ≤ xs.length → Pv i σ H → SqL K H a xs)
    (hs : ∀ i x σ H, xs[i]? = some x → Pv i σ H → g x σ H fun σ2 H2 => tb { D with nx := Pv (i + 1), ct := Pv (i + 1), bk := D.nx } σ2 H2) (hd : ∀ σ H, Pv xs.length σ H → D.nx σ H) : LoopJ (Itl K a) g tb D σ H := for_list Pv h0 hl hs hd
theorem loop_tup {K : PySem.W.Frag} {a : Addr} (xs : List V) {g : TG} {tb : TS} {D : Ends} {σ : St} {H : Hp} (Pv : Nat → St → Hp → Prop) (h0 : Pv 0 σ H) (hl : ∀ i σ H, i ≤ xs.length → Pv i σ H → SqT K H a xs)
    (hs : ∀ i x σ H, xs[i]? = some x → Pv i σ H → g x σ H fun σ2 H2 => tb { D with nx := Pv (i + 1), ct := Pv (i + 1), bk := D.nx } σ2 H2) (hd : ∀ σ H, Pv xs.length σ H → D.nx σ H) : LoopJ (Itt K a) g tb D σ H := for_tup Pv h0 hl hs hd
theorem cj_range_map {lo : Int} {n : Nat} {te : TE} {cm : List (Option Nat)} {σ : St} {H : Hp} {Q : VK} (f : Nat → V) (hn : n ≤ sizeLine) {j : Nat} (hj : (σof cm σ)[j]? = some none)
    (hs : ∀ i, i < n → ∀ N : VK, N (f i) H → te ((σof cm σ).set j (some (.int (lo + i)))) H N)
    (hd : ∀ p, H p = none → Q (.ref p) (upd H p (.lst ((List.range n).map f)))) : CompJ (Itr lo n) (gName j) tYes te cm σ Q H := comp_range_map f hn hj hs hd
theorem σof_cons_none (cm : List (Option Nat)) (σ : St) : σof (none :: cm) σ = none :: σof cm σ := rfl
theorem σof_cons_some (i : Nat) (cm : List (Option Nat)) (σ : St) : σof (some i :: cm) σ = (σ[i]?).getD none :: σof cm σ := rfl
theorem σof_nil (σ : St) : σof [] σ = [] := rfl
section
variable {K : PySem.W.Frag} {H : Hp} {Q : VK}
theorem isi_int_int {i : Int} (q : Q (.bl true) H) : rIsi K [.int i, .ty "int"] H Q := ⟨_, _, _, _, rfl, .int i, kit_same, q⟩
theorem isi_int_bool {i : Int} (q : Q (.bl false) H) : rIsi K [.int i, .ty "bool"] H Q := ⟨_, _, _, _, rfl, .int i, kit_int_bool, q⟩
theorem isi_lst_list {a : Addr} {xs : List V} (h : H a = some (.lst xs)) (q : Q (.bl true) H) : rIsi K [.ref a, .ty "list"] H Q := ⟨_, _, _, _, rfl, .lst h, kit_same, q⟩
end
theorem scal_ii (a b : Int) : scal (.int a) (.int b) = true := rfl
theorem scal_bb (a b : Bool) : scal (.bl a) (.bl b) = true := rfl
theorem scal_ss (a b : Str) : scal (.str a) (.str b) = true := rfl
end L2
namespace L2
open PySem PySem.Spec PyProof.Rows
theorem upo {H : Hp} {a b : Addr} {o u : HO} (h : H b = some u) (hn : H a = none) : upd H a o b = some u := by rw [upd_ne (ne_of_none h hn)]; exact h
theorem upn {H : Hp} {a b : Addr} {o : HO} (h : upd H a o b = none) : H b = none := by
  by_cases e : b = a
  · subst e; rw [upd_same] at h; cases h
  · rw [upd_ne e] at h; exact h
theorem Same.lay {H H' : Hp} {a : Addr} {o : HO} (s : Same H H') (hn : H' a = none) : Same H (upd H' a o) := fun b u e => upo (s b u e) hn
theorem Same.rewr {H H' : Hp} {a : Addr} {o : HO} (s : Same H H') (hn : H a = none) : Same H (upd H' a o) := fun b u e => by rw [upd_ne (ne_of_none e hn)]; exact s b u e
theorem sIx_one {n d : Nat} (h : 1 ≤ n) : HT.sIx n d (some 1) = 1 := by
  have := HT.sIx_nat n d 1
  rw [show ((1 : Nat) : Int) = 1 from rfl] at this
  omega
theorem sIx_m1 {n d : Nat} (h : 1 ≤ n) : HT.sIx n d (some (-1)) = n - 1 := by
  have := HT.clip_eq (-1) n d
  rw [if_pos (by decide)] at this
  omega
theorem cut_ends (ds : List Int) (h : 2 ≤ ds.length) : cutV (ds.map V.int) (some 1) (some (-1)) = ((ds.drop 1).take (ds.length - 1 - 1)).map V.int := by
  unfold cutV
  rw [List.length_map, sIx_one (by omega), sIx_m1 (by omega), List.map_take, List.map_drop]
end L2
namespace L2
open PySem PySem.Spec PyProof.Rows
theorem atI_m1 {ds : List Int} (h : 0 < ds.length) : atI (ds.map V.int) (-1) = some (.int (whole ds)) := by
  unfold atI ixN
  rw [if_neg (by decide), List.length_map, if_pos (by omega), Option.bind_some, List.getElem?_map, show (-1 + (ds.length : Int)).toNat = ds.length - 1 by omega, List.getElem?_eq_getElem (by omega)]
  unfold whole
  rw [List.getD_eq_getElem?_getD, List.getElem?_eq_getElem (by omega)]
  rfl
theorem eqV_int (a b : Int) : eqV (.int a) (.int b) = decide (a = b) := by
  simp [eqV, Bool.beq_eq_decide_eq]
theorem inV_int (d : Int) (ds : List Int) : inV (.int d) (ds.map V.int) = decide (d ∈ ds) := by
  unfold inV
  rw [List.any_map]
  by_cases h : d ∈ ds
  · rw [decide_eq_true h, List.any_eq_true]
    exact ⟨d, h, by simp [eqV_int]⟩
  · rw [decide_eq_false h, List.any_eq_false]
    intro x hx
    simp [eqV_int]
    rintro rfl
    exact h hx
theorem mem_getD' {ds : List Int} {d : Int} (h : d ∈ ds) : ∃ i, i < ds.length ∧ ds.getD i 0 = d := by
  obtain ⟨i, hi, e⟩ := List.getElem_of_mem h
  exact ⟨i, hi, by rw [List.getD_eq_getElem?_getD, List.getElem?_eq_getElem hi, Option.getD_some]; exact e⟩
theorem map_int_some {xs : List Int} {i : Nat} {x : V} (h : (xs.map V.int)[i]? = some x) : ∃ z, x = V.int z ∧ xs[i]? = some z ∧ z ∈ xs := by
  rw [List.getElem?_map] at h
  cases e : xs[i]? with
  | none => rw [e] at h; cases h
  | some z => rw [e] at h; exact ⟨z, (Option.some.inj h).symm, rfl, List.mem_of_getElem? e⟩
end L2

namespace L2
open PySem PySem.Spec PyProof.Rows
section
variable {X : Cx}
/-! ### a range as a value; list(range(n)) -/
theorem call_rangeV : CallR X (.type "range") (fun xs H Q => ∃ j : Int, xs = [.int j] ∧ ∀ p, H p = none → Q (.ref p) (upd H p (.rng 0 j))) := by
  intro pins s σ H xs us Q I r h
  obtain ⟨j, rfl, q⟩ := h
  obtain ⟨u, rfl, t, rfl⟩ := vals1 r
  refine call_range_1 ?_
  exact ⟨.ref s.heap.objs.size, _, I.laid (o := .rng 0 j) (fun b o e => Heap.get?_push_of_some _ e) (Nat.le_refl _) ⟨_, _, _, Heap.get?_push_size _ rfl⟩, rfl, q _ I.fresh⟩
theorem call_list_rng (hc : X.calm = true) : CallR X (.type "list") (fun xs H Q => ∃ (r : Addr) (n : Nat), xs = [.ref r] ∧ H r = some (.rng 0 (n : Int)) ∧ n ≤ 100000 ∧ ∀ p, H p = none → Q (.ref p) (upd H p (.lst ((List.range n).map fun (i : Nat) => V.int (i : Int))))) := by
  intro pins s σ H xs us Q I rr h
  obtain ⟨r, n, rfl, hr, hn, q⟩ := h
  obtain ⟨u, rfl, ru⟩ := vals1 rr
  cases ru
  obtain ⟨t, u, v, e⟩ := I.hok r _ hr
  have hsz : Builtin.Range.rangeSize 0 (n : Int) 1 = ((n : Nat) : Int) := by rw [rangeSize_one]; split <;> omega
  refine call_list_range (I.ok.hd hc) (show IsRange s.heap r 0 n 1 t u v from e) (small_one (by omega) (by omega) (by omega) (by omega)) hsz (by omega) fun h' tk acc c' hk hS hacc => ?_
  have hv : Vals ((List.range n).map fun (i : Nat) => V.int (i : Int)) acc.toList := by
    have : ∀ (m : Nat) (us : List Value) (k : Nat), us.length = m → (∀ (j : Nat) v, us[j]? = some v → ∃ t, v = Value.int ((k : Int) + j) t) → Vals ((List.range' k m).map fun (i : Nat) => V.int (i : Int)) us := by
      intro m
      induction m with
      | zero => intro us k hl _; cases us with
        | nil => exact .nil
        | cons => simp at hl
      | succ m ih => intro us k hl ha; cases us with
        | nil => simp at hl
        | cons x r =>
          obtain ⟨t, e⟩ := ha 0 x rfl
          refine .cons ⟨t, by simpa using e⟩ (ih r (k + 1) (by simpa using hl) fun j v hv => ?_)
          obtain ⟨t, e⟩ := ha (j + 1) v (by simpa using hv)
          exact ⟨t, by rw [e]; congr 1; push_cast; omega⟩
    rw [List.range_eq_range']
    refine this n acc.toList 0 (by simpa using hacc.1) fun j v hv => ?_
    obtain ⟨t, e⟩ := hacc.2 j v (by simpa using hv)
    exact ⟨t, by rw [e]; congr 1; omega⟩
  refine ⟨.ref s.heap.objs.size, _, I.laid (o := .lst ((List.range n).map fun (i : Nat) => V.int (i : Int))) hk (Nat.le_refl _) ⟨by rw [List.length_map, List.length_range]; exact Nat.le_of_lt (Nat.lt_of_le_of_lt hn (by decide)), acc.toList, c', hv, by simpa using hS⟩, rfl, q _ I.fresh⟩
end
/-! ### in, over a written tuple of two ints -/
theorem inV_two (d x y : Int) : inV (.int d) [.int x, .int y] = decide (d = x ∨ d = y) := by
  have := inV_int d [x, y]
  simpa [eq_comm] using this
end L2
namespace L2
open PySem PySem.Spec PyProof.Rows
section
variable {X : Cx}
end
end L2
namespace L2
end L2

namespace L2
open PySem PySem.Spec PyProof.Rows
/-! ### an exception that has left a call -/
def CXf (P : Program) (w : World) : CXT := fun outer H s E e s' =>
  ∃ (x : Addr) (cls a0 : Value) (H' : Hp) (B : Heap), e = .ref x ∧ s'.os = s.os ∧ AllBare s'.gens ∧ Un (frs outer) [] H H' s.heap s'.heap ∧ HOk P w H' s'.heap ∧ Heap.FlyingW B outer x cls a0 s'.heap ∧
    (∀ b o, s'.heap.get? b = some o → (H' b ≠ none ∨ ∃ o0, s.heap.get? b = some o0) → b ∉ frs outer → B.get? b = some o) ∧ (∀ o, s.heap.get? x ≠ some o) ∧ H' x = none ∧ E cls none H'
theorem ObjOk.there {P : Program} {w : World} {H : Hp} {h : Heap} {a : Addr} {o : HO} (l : ObjOk P w H h a o) : ∃ ob, h.get? a = some ob := by
  cases o with
  | lst xs => obtain ⟨_, its, n, _, e⟩ := l; exact ⟨_, e⟩
  | tup xs => obtain ⟨_, its, _, ob, e, _⟩ := l; exact ⟨_, e⟩
  | dK kvs => obtain ⟨_, _, _, _, ob, _, _, e, _⟩ := l; exact ⟨_, e⟩
  | dT kvs => obtain ⟨_, _, _, _, ob, _, _, e, _⟩ := l; exact ⟨_, e⟩
  | set S n => obtain ⟨ob, _, _, _, e, _⟩ := l; exact ⟨_, e⟩
  | ins C dx fs => obtain ⟨_, _, _, e, _⟩ := l; exact ⟨_, e⟩
  | own y => exact l
  | xd fs => obtain ⟨mA, ⟨od, _, _, e, _⟩, _⟩ := l; exact ⟨_, e⟩
  | rng lo hi => obtain ⟨_, _, _, e⟩ := l; exact ⟨_, e⟩
  | frz ob u => obtain ⟨e, _⟩ := l; exact ⟨_, e⟩
  | tbl ps => exact ⟨_, l⟩
  | met f y => exact ⟨_, l⟩
  | ext φ => obtain ⟨_, h, _⟩ := l; exact h
section
variable {P : Program} {w : World} {K : PySem.W.Frag} {mg : Str → Option Value} {base : Heap} {N : List Str} {qual : Str} {scope : Scope} {f : Addr} {cd : Value} {A : Around} {outer : List Env} {s : Shared} {H : Hp} {E : XK}
/-- raise C(e, ..) -/
def tRaise (E : XK) (C : Addr) (t : TA) : TS := fun _ σ H => t σ H fun vs H1 => vs.length ≤ sizeLine ∧ E (.ref C) none H1
end
end L2

namespace L2
open PySem PySem.Spec PyProof.Rows
/-! ### try: .. except C as n: .. -/
abbrev XT := Value → St → Hp → Prop
section
variable {X : Cx} {pins pins' : List (Addr × Obj)} {σ : St} {H : Hp} {s : Shared} {E' : XT} {e : Value}
/-- a caught exception, by its class -/
def excO (y : Addr) (cls : Value) : HO := .ext fun h => ∃ o vs, h.get? y = some o ∧ o.cls = cls ∧ o.data = .fields vs
end
section
variable {X : Cx}
def tTry (K : PySem.W.Frag) (C : Addr) (i : Nat) (tb : XT → TS) (th : TS) : TS := fun D σ H =>
  tb (fun cls σ' H' => PySem.W.exmOne K cls (.ref C) = some true ∧ ∀ y, H' y = none →
    th { nx := fun σ H => D.nx (σ.set i none) H, rt := D.rt, bk := fun σ H => D.bk (σ.set i none) H, ct := fun σ H => D.ct (σ.set i none) H } (σ'.set i (some (.ref y))) (upd H' y (excO y cls))) D σ H
/-- a call in a try's body -/
def tCallT (sp : Sp) (dvs : List V) (E' : XT) (t : TA) : TE := fun σ H Q => t σ H fun vs H1 => sp (vs ++ dvs) H1 Q fun cls _ H' => E' cls σ H'
end
end L2

namespace L2
open PySem PySem.W PySem.Spec PyProof.Rows
section
variable {prog : Program} {w : World} {A : Around} {E : Value → Shared → Prop} {h : Heap} {g : Array GenState} {d : Drawn} {t : Nat} {os : OsState} {a : Addr} {o : Obj} {vs : Array Value} {K : Frag} {C : Addr}
end
end L2
namespace L2
open PySem PySem.Spec PyProof.Rows
/-- a constant of the module -/
theorem pe_globV {X : Cx} {x : Str} {v : V} {pos : Pos} (hg : Gl X x) (h : ∃ u, X.mg x = some u ∧ RelV v u) (hd : (x == ("__debug__" : Str)) = false := by decide) : PE X (.Name x pos) (tC v) :=
  let ⟨_, hm, r⟩ := h
  pe_glob hg hm r hd
end L2

namespace L2
open PySem PySem.Spec PyProof.Rows
/-! ### == of two lists of plain values -/
def eqL : List V → List V → Bool
  | [], [] => true
  | x :: xs, y :: ys => eqV x y && eqL xs ys
  | _, _ => false
def rEqL (K : PySem.W.Frag) : R2 := fun x y H Q => ∃ a b xs ys, x = .ref a ∧ y = .ref b ∧ SqL K H a xs ∧ SqL K H b ys ∧ xs.all flatV = true ∧ ys.all flatV = true ∧ Q (.bl (eqL xs ys)) H
end L2
namespace L2
open PySem PySem.Spec PyProof.Rows
/-! ### xs[::-1] -/
def tRev (K : PySem.W.Frag) (te : TE) (ts : TO) : TE := fun σ H Q => te σ H fun x H1 => ts σ H1 fun k H2 => k = some (-1) ∧ ∃ a xs, x = .ref a ∧ SqL K H2 a xs ∧ ∀ p, H2 p = none → Q (.ref p) (upd H2 p (.lst xs.reverse))
end L2
namespace L2
/-- rising from one to the next, within bounds -/
theorem Shaft.of {ds : List Int} (l2 : 2 ≤ ds.length) (l6 : ds.length ≤ 6) (b : ∀ i, i < ds.length → 0 ≤ ds.getD i 0 ∧ ds.getD i 0 ≤ 500) (u : ∀ i, i + 1 < ds.length → ds.getD i 0 < ds.getD (i + 1) 0) : Shaft ds := by
  have get : ∀ i (h : i < ds.length), ds[i] = ds.getD i 0 := fun i h => by rw [List.getD_eq_getElem?_getD, List.getElem?_eq_getElem h]; rfl
  have up : ∀ k i, i + k + 1 < ds.length → ds.getD i 0 < ds.getD (i + k + 1) 0 := by
    intro k
    induction k with
    | zero => intro i h; exact u i h
    | succ k ih =>
      intro i h
      have h1 := ih i (by omega)
      have h2 := u (i + k + 1) (by omega)
      rw [show i + (k + 1) + 1 = i + k + 1 + 1 by omega]
      omega
  refine ⟨l2, l6, fun d hd => ?_, fun d hd => ?_, List.pairwise_iff_getElem.mpr fun i j hi hj hij => ?_⟩
  · obtain ⟨i, hi, rfl⟩ := List.getElem_of_mem hd
    rw [get i hi]; exact (b i hi).1
  · obtain ⟨i, hi, rfl⟩ := List.getElem_of_mem hd
    rw [get i hi]; exact (b i hi).2
  · rw [get i hi, get j hj]
    have := up (j - i - 1) i (by omega)
    rw [show i + (j - i - 1) + 1 = j by omega] at this
    exact this
end L2
namespace L2
/-- a list of ints, of at most n -/
def IntL (l : List V) (n : Nat) : Prop := ∃ xs : List Int, l = xs.map V.int ∧ xs.length ≤ n
theorem IntL.len {l : List V} {n : Nat} (h : IntL l n) : l.length ≤ n := by obtain ⟨xs, rfl, h⟩ := h; rw [List.length_map]; exact h
theorem IntL.mono {l : List V} {n m : Nat} (h : IntL l n) (hm : n ≤ m) : IntL l m := by obtain ⟨xs, e, h⟩ := h; exact ⟨xs, e, Nat.le_trans h hm⟩
theorem IntL.one (i : Int) : IntL [.int i] 1 := ⟨[i], rfl, Nat.le_refl _⟩
theorem IntL.app {l k : List V} {n m : Nat} (h : IntL l n) (g : IntL k m) : IntL (l ++ k) (n + m) := by
  obtain ⟨xs, rfl, h⟩ := h
  obtain ⟨ys, rfl, g⟩ := g
  exact ⟨xs ++ ys, by rw [List.map_append], by rw [List.length_append]; omega⟩
theorem IntL.fits {l : List V} {n : Nat} (h : IntL l n) (hn : n ≤ 1000) : l.length ≤ PySem.sizeLine := Nat.le_trans h.len (Nat.le_of_lt (small1000 hn))
end L2

namespace L2
open PySem PySem.W PySem.Spec PyProof.Rows
/-! ### isinstance by the kinds of plain values, lists, tuples -/
def tyName : V → Option String
  | .non => some "NoneType"
  | .bl _ => some "bool"
  | .int _ => some "int"
  | .str _ => some "str"
  | _ => none
def TyX (K : Frag) (H : Hp) (x : V) (T : String) : Prop := tyName x = some T ∨ (∃ a xs, x = .ref a ∧ SqL K H a xs ∧ T = "list") ∨ ∃ a xs, x = .ref a ∧ SqT K H a xs ∧ T = "tuple"
def tyNames : List String := ["NoneType", "bool", "int", "str", "list", "tuple"]
def subB (T n : String) : Bool := T == n || (T == "bool" && n == "int")
theorem kit_sub {K : Frag} {T n : String} (hT : T ∈ tyNames) (hn : n ∈ tyNames) : kitOne K (.type T) (.type n) = some (subB T n) := by
  simp only [tyNames, List.mem_cons, List.not_mem_nil, or_false] at hT hn
  rcases hT with rfl | rfl | rfl | rfl | rfl | rfl <;> rcases hn with rfl | rfl | rfl | rfl | rfl | rfl <;> with_unfolding_all rfl
section
variable {X : Cx} {pins : List (Addr × Obj)} {σ : St} {H : Hp} {s : Shared}
theorem tyX_names {K : Frag} {x : V} {T : String} (h : TyX K H x T) : T ∈ tyNames := by
  rcases h with h | ⟨_, _, _, _, rfl⟩ | ⟨_, _, _, _, rfl⟩
  · cases x <;> simp only [tyName, Option.some.injEq, reduceCtorEq] at h <;> subst h <;> decide
  · decide
  · decide
theorem kitx_any (I : Inv X pins σ H s) {x : V} {u : Value} {T : String} (rx : RelV x u) (ty : TyX X.K H x T) : ∃ φ : Heap → Prop, KitX X.K u (.type T) φ ∧ φ s.heap ∧ u ≠ .builtin "__main__.__loader__#opaque" := by
  rcases ty with h | ⟨a, xs, rfl, h, rfl⟩ | ⟨a, xs, rfl, h, rfl⟩
  · cases x with
    | non => cases rx; cases h; exact ⟨_, kitx_none, trivial, fun z => nomatch z⟩
    | bl b => cases rx; cases h; exact ⟨_, kitx_bool, trivial, fun z => nomatch z⟩
    | int i => obtain ⟨t, rfl⟩ := rx; cases h; exact ⟨_, kitx_int, trivial, fun z => nomatch z⟩
    | str i => obtain ⟨t, rfl⟩ := rx; cases h; exact ⟨_, kitx_str, trivial, fun z => nomatch z⟩
    | _ => cases h
  · cases rx
    obtain ⟨its, r, pl, hz⟩ := I.list h
    obtain ⟨o, ho, hc, _⟩ := pl.isList
    exact ⟨_, kitx_list, ⟨o, ho, hc⟩, fun z => nomatch z⟩
  · cases rx
    obtain ⟨its, r, ⟨o, ho, hc, _⟩, hz⟩ := I.tuple h
    exact ⟨_, kitx_tuple, ⟨o, ho, hc⟩, fun z => nomatch z⟩
def rIsiX (K : Frag) : List V → Hp → VK → Prop := fun xs H Q => ∃ x n T, xs = [x, .ty n] ∧ TyX K H x T ∧ n ∈ tyNames ∧ Q (.bl (subB T n)) H
theorem call_isiX : CallR X (.builtin "isinstance") (rIsiX X.K) := by
  intro pins s σ H xs us Q I r h
  obtain ⟨x, n, T, rfl, ty, hn, q⟩ := h
  obtain ⟨u, v, rfl, ru, rv⟩ := vals2 r
  cases rv
  obtain ⟨φ, Z, p, ne⟩ := kitx_any I ru ty
  exact kia_one Z I.kIn p (kit_sub (tyX_names ty) hn) ne fun tk => ⟨.bl _, H, I.tok tk, rfl, q⟩
end
/-! ### values by their shape -/
inductive Dt where
  | flat (v : V)
  | lst (ds : List Dt)
  | tup (ds : List Dt)
inductive Rep (K : Frag) (H : Hp) : Nat → V → Dt → Prop
  | flat {n : Nat} {v : V} (h : flatV v = true) : Rep K H n v (.flat v)
  | lst {n : Nat} {a : Addr} {xs : List V} {ds : List Dt} (hs : SqL K H a xs) (hb : xs.length ≤ 100000) (hl : xs.length = ds.length) (hr : ∀ (i : Nat) x d, xs[i]? = some x → ds[i]? = some d → Rep K H n x d) : Rep K H (n + 1) (.ref a) (.lst ds)
  | tup {n : Nat} {a : Addr} {xs : List V} {ds : List Dt} (hs : SqT K H a xs) (hb : xs.length ≤ 100000) (hl : xs.length = ds.length) (hr : ∀ (i : Nat) x d, xs[i]? = some x → ds[i]? = some d → Rep K H n x d) : Rep K H (n + 1) (.ref a) (.tup ds)
theorem Same.tup {K : Frag} {H H' : Hp} {a : Addr} {xs : List V} (e : Same H H') (h : SqT K H a xs) : SqT K H' a xs := by
  rcases h with (h | ⟨o, h⟩) | h
  · exact .inl (.inl (e _ _ h))
  · exact .inl (.inr ⟨o, e _ _ h⟩)
  · exact .inr h
theorem Rep.same {K : Frag} {H H' : Hp} (s : Same H H') {n : Nat} {x : V} {d : Dt} (h : Rep K H n x d) : Rep K H' n x d := by
  induction h with
  | flat h => exact .flat h
  | lst hs hb hl _ ih => exact .lst (s.seq hs) hb hl ih
  | tup hs hb hl _ ih => exact .tup (s.tup hs) hb hl ih
theorem Rep.up {K : Frag} {H : Hp} {n : Nat} {x : V} {d : Dt} (h : Rep K H n x d) : Rep K H (n + 1) x d := by
  induction h with
  | flat h => exact .flat h
  | lst hs hb hl _ ih => exact .lst hs hb hl ih
  | tup hs hb hl _ ih => exact .tup hs hb hl ih
theorem atI_of {α : Type} {xs : List α} {k : Nat} {v : α} (h : xs[k]? = some v) : atI xs (k : Int) = some v := atI_nat h
end L2

namespace L2
open PySem PySem.Spec PyProof.Rows
/-! ### loads: a list of tuples (kind, level, goal) -/
abbrev Ld := Str × Int × Int
def ldV (x : Ld) : List V := [.str x.1, .int x.2.1, .int x.2.2]
def Tups (K : PySem.W.Frag) (H : Hp) (as : List Addr) (ls : List Ld) : Prop := as.length = ls.length ∧ ∀ (i : Nat) a x, as[i]? = some a → ls[i]? = some x → SqT K H a (ldV x)
def LoadsAt (K : PySem.W.Frag) (H : Hp) (l : Addr) (ls : List Ld) : Prop := ∃ as : List Addr, SqL K H l (as.map V.ref) ∧ Tups K H as ls
theorem Tups.same {K : PySem.W.Frag} {H H' : Hp} {as : List Addr} {ls : List Ld} (s : Same H H') (h : Tups K H as ls) : Tups K H' as ls := ⟨h.1, fun i a x e1 e2 => s.tup (h.2 i a x e1 e2)⟩
theorem LoadsAt.same {K : PySem.W.Frag} {H H' : Hp} {l : Addr} {ls : List Ld} (s : Same H H') (h : LoadsAt K H l ls) : LoadsAt K H' l ls := by
  obtain ⟨as, a, b⟩ := h
  exact ⟨as, s.seq a, b.same s⟩
theorem Tups.nil {K : PySem.W.Frag} {H : Hp} : Tups K H [] [] := ⟨rfl, fun i a x e _ => by simp at e⟩
theorem Tups.app {K : PySem.W.Frag} {H : Hp} {as bs : List Addr} {ls ks : List Ld} (h : Tups K H as ls) (g : Tups K H bs ks) : Tups K H (as ++ bs) (ls ++ ks) := by
  refine ⟨by rw [List.length_append, List.length_append, h.1, g.1], fun i a x e1 e2 => ?_⟩
  by_cases hi : i < as.length
  · rw [List.getElem?_append_left hi] at e1
    rw [List.getElem?_append_left (by rw [← h.1]; exact hi)] at e2
    exact h.2 i a x e1 e2
  · rw [List.getElem?_append_right (by omega)] at e1
    rw [List.getElem?_append_right (by rw [← h.1]; omega), ← h.1] at e2
    exact g.2 _ a x e1 e2
theorem Tups.one {K : PySem.W.Frag} {H : Hp} {a : Addr} {x : Ld} (h : SqT K H a (ldV x)) : Tups K H [a] [x] := by
  refine ⟨rfl, fun i b y e1 e2 => ?_⟩
  cases i with
  | zero => cases e1; cases e2; exact h
  | succ i => simp at e1
theorem Tups.take {K : PySem.W.Frag} {H : Hp} {as : List Addr} {ls : List Ld} (h : Tups K H as ls) (n : Nat) : Tups K H (as.take n) (ls.take n) := by
  refine ⟨by rw [List.length_take, List.length_take, h.1], fun i a x e1 e2 => ?_⟩
  rw [List.getElem?_take] at e1 e2
  split at e1
  · rename_i hi
    rw [if_pos hi] at e2
    exact h.2 i a x e1 e2
  · cases e1
theorem Tups.drop {K : PySem.W.Frag} {H : Hp} {as : List Addr} {ls : List Ld} (h : Tups K H as ls) (n : Nat) : Tups K H (as.drop n) (ls.drop n) := by
  refine ⟨by rw [List.length_drop, List.length_drop, h.1], fun i a x e1 e2 => ?_⟩
  rw [List.getElem?_drop] at e1 e2
  exact h.2 _ a x e1 e2
theorem SqT.rew {K : PySem.W.Frag} {H : Hp} {a l : Addr} {xs ys : List V} {o : HO} (h : SqT K H a xs) (hl : H l = some (.lst ys)) : SqT K (upd H l o) a xs := by
  rcases h with (h | ⟨o', h⟩) | h
  · refine .inl (.inl ?_)
    rw [upd_ne (fun e => by rw [e, hl] at h; cases h)]; exact h
  · refine .inl (.inr ⟨o', ?_⟩)
    rw [upd_ne (fun e => by rw [e, hl] at h; cases h)]; exact h
  · exact .inr h
theorem Tups.rew {K : PySem.W.Frag} {H : Hp} {as : List Addr} {ls : List Ld} {l : Addr} {ys : List V} {o : HO} (h : Tups K H as ls) (hl : H l = some (.lst ys)) : Tups K (upd H l o) as ls := ⟨h.1, fun i a x e1 e2 => (h.2 i a x e1 e2).rew hl⟩
/-! ### a comprehension by an invariant -/
theorem cj_inv {J : It} {g : TG} {tc : TT} {te : TE} {cm : List (Option Nat)} {σ : St} {Q : VK} {H : Hp} (n : Nat) (Pv : Nat → List V → Hp → Prop) (h0 : Pv 0 [] H)
    (hgo : ∀ i acc H, i < n → Pv i acc H → J.go i H) (hst : ∀ acc H, Pv n acc H → J.stop n H)
    (hs : ∀ i acc H, i < n → Pv i acc H → acc.length < sizeLine ∧ ∀ x H', J.yld i H x H' → ∀ M : List V → Hp → Prop, (∀ acc' H', Pv (i + 1) acc' H' → M acc' H') → g x (σof cm σ) H' fun σ2 H2 => Wk (σof cm σ) σ2 ∧ tc σ2 H2 fun b H3 => if b = true then te σ2 H3 fun v H4 => M (acc ++ [v]) H4 else M acc H3)
    (hd : ∀ acc H, Pv n acc H → ∀ p, H p = none → Q (.ref p) (upd H p (.lst acc))) : CompJ J g tc te cm σ Q H := by
  refine ⟨fun i m acc H => m = n - i ∧ i ≤ n ∧ Pv i acc H, ⟨n, by simp, Nat.zero_le _, h0⟩, ?_⟩
  rintro i m acc H ⟨rfl, hi, p⟩
  by_cases hlt : i < n
  · obtain ⟨hz, q⟩ := hs i acc H hlt p
    refine .inr ⟨hgo i acc H hlt p, hz, fun x H' y => q x H' y (fun acc' H4 => ∃ m', m' < n - i ∧ m' = n - (i + 1) ∧ i + 1 ≤ n ∧ Pv (i + 1) acc' H4) fun acc' H4 q => ⟨n - (i + 1), by omega, rfl, hlt, q⟩⟩
  · have e : i = n := by omega
    subst e
    exact .inl ⟨hst acc H p, hd acc H p⟩
end L2

namespace L2
open PySem PySem.Spec PyProof.Rows
/-! ### the table of a set that only grows: its places rise -/
def Ris (xs : List Nat) : Prop := xs.Pairwise (· < ·)
theorem Ris.lt {xs : Array Nat} (h : Ris xs.toList) {i k a b : Nat} (hik : i < k) (ha : xs[i]? = some a) (hb : xs[k]? = some b) : a < b := by
  rw [← Array.getElem?_toList] at ha hb
  obtain ⟨h1, rfl⟩ := List.getElem?_eq_some_iff.mp ha
  obtain ⟨h2, rfl⟩ := List.getElem?_eq_some_iff.mp hb
  exact List.pairwise_iff_getElem.mp h i k h1 h2 hik
theorem Ris.le {xs : Array Nat} (h : Ris xs.toList) {i k a b : Nat} (hik : i ≤ k) (ha : xs[i]? = some a) (hb : xs[k]? = some b) : a ≤ b := by
  rcases Nat.lt_or_eq_of_le hik with e | e
  · exact Nat.le_of_lt (h.lt e ha hb)
  · subst e
    rw [ha] at hb
    cases hb
    exact Nat.le_refl _
theorem below_go {xs : Array Nat} {j : Nat} (h : Ris xs.toList) : ∀ (fuel lo hi : Nat), hi ≤ lo + fuel → lo ≤ hi → hi ≤ xs.size →
    (∀ i v, i < lo → xs[i]? = some v → v < j) → (∀ i v, hi ≤ i → xs[i]? = some v → j ≤ v) →
    SetTable.below.go xs j fuel lo hi ≤ xs.size ∧ (∀ i v, i < SetTable.below.go xs j fuel lo hi → xs[i]? = some v → v < j) ∧ (∀ i v, SetTable.below.go xs j fuel lo hi ≤ i → xs[i]? = some v → j ≤ v)
  | 0, lo, hi, h1, h2, h3, h4, h5 => by
    have e : lo = hi := by omega
    subst e
    exact ⟨h3, h4, h5⟩
  | fuel + 1, lo, hi, h1, h2, h3, h4, h5 => by
    unfold SetTable.below.go
    by_cases hlt : lo < hi
    · rw [if_pos hlt]
      dsimp only
      have hm : (lo + hi) / 2 < xs.size := by omega
      have hv : xs[(lo + hi) / 2]? = some xs[(lo + hi) / 2] := Array.getElem?_eq_getElem hm
      have hg : xs.getD ((lo + hi) / 2) j = xs[(lo + hi) / 2] := by simp [Array.getD, hm]
      rw [hg]
      split
      · rename_i hc
        exact below_go h fuel _ hi (by omega) (by omega) h3 (fun i v hi' e => Nat.lt_of_le_of_lt (h.le (by omega) e hv) hc) h5
      · rename_i hc
        exact below_go h fuel lo _ (by omega) (by omega) (by omega) h4 (fun i v hi' e => Nat.le_trans (Nat.le_of_not_lt hc) (h.le hi' hv e))
    · rw [if_neg hlt]
      have e : lo = hi := by omega
      subst e
      exact ⟨h3, h4, h5⟩
theorem below_is {xs : Array Nat} {j : Nat} (h : Ris xs.toList) : SetTable.below xs j ≤ xs.size ∧ (∀ i v, i < SetTable.below xs j → xs[i]? = some v → v < j) ∧ (∀ i v, SetTable.below xs j ≤ i → xs[i]? = some v → j ≤ v) :=
  below_go h xs.size 0 xs.size (by omega) (Nat.zero_le _) (Nat.le_refl _) (fun i v hi _ => absurd hi (Nat.not_lt_zero _)) (fun i v hi e => by
    have := (Array.getElem?_eq_some_iff.mp e).1
    omega)
theorem ris_ins {xs : Array Nat} {j : Nat} (h : Ris xs.toList) (hn : xs[SetTable.below xs j]? ≠ some j) : Ris (SetTable.insertAt xs (SetTable.below xs j) j).toList := by
  obtain ⟨h1, h2, h3⟩ := below_is (j := j) h
  rw [SetTable.toList_insertAt]
  unfold Ris
  rw [List.pairwise_append]
  refine ⟨h.sublist (List.take_sublist _ _), List.pairwise_cons.mpr ⟨fun b hb => ?_, h.sublist (List.drop_sublist _ _)⟩, fun a ha b hb => ?_⟩
  · obtain ⟨i, hi⟩ := List.mem_iff_getElem?.mp hb
    rw [List.getElem?_drop, Array.getElem?_toList] at hi
    have hle := h3 _ b (by omega) hi
    rcases Nat.lt_or_eq_of_le hle with e | e
    · exact e
    · subst e
      exfalso
      by_cases hz : i = 0
      · subst hz; exact hn hi
      · have hs := (Array.getElem?_eq_some_iff.mp hi).1
        have hp : xs[SetTable.below xs j]? = some xs[SetTable.below xs j] := Array.getElem?_eq_getElem (by omega)
        have := h.lt (show SetTable.below xs j < SetTable.below xs j + i by omega) hp hi
        have := h3 _ _ (Nat.le_refl _) hp
        omega
  · obtain ⟨i, hi⟩ := List.mem_iff_getElem?.mp ha
    rw [List.getElem?_take] at hi
    split at hi
    · rename_i hlt
      rw [Array.getElem?_toList] at hi
      have ha' := h2 i a hlt hi
      rcases List.mem_cons.mp hb with rfl | hb
      · exact ha'
      · obtain ⟨k, hk⟩ := List.mem_iff_getElem?.mp hb
        rw [List.getElem?_drop, Array.getElem?_toList] at hk
        exact Nat.lt_of_lt_of_le ha' (h3 _ b (by omega) hk)
    · cases hi
def Tab (b : Bool) (t : SetTable) : Prop := (b = false → t.led = true) ∧ t.dummies = #[] ∧ Ris t.place.toList
theorem slot_nodummy {t : SetTable} (hd : t.dummies = #[]) (j : Nat) : t.slot j ≠ .dummy ∧ (t.slot j = .empty → t.place[SetTable.below t.place j]? ≠ some j) := by
  unfold SetTable.slot
  dsimp only
  have hh : SetTable.has t.dummies j = false := by
    rw [hd]
    unfold SetTable.has
    simp
  rw [hh]
  split
  · exact ⟨fun e => (by cases e), fun e => (by cases e)⟩
  · rename_i h
    refine ⟨fun e => (by cases e), fun _ e => h ?_⟩
    rw [e]
    simp
theorem probe_empty {t : SetTable} {f : Nat → Int} {h : Int} (hd : t.dummies = #[]) : ∀ (fuel : Nat) (p : SetTable.Probe) (j : Nat) (d : Option Nat), p.dummy = none →
    SetTable.probe.go t f h fuel p = some (.empty j d) → t.slot j = .empty ∧ d = none
  | 0, p, j, d, hp, e => by cases e
  | fuel + 1, p, j, d, hp, e => by
    unfold SetTable.probe.go at e
    have hadv : (t.advance p).dummy = none := by
      unfold SetTable.advance
      split
      · exact hp
      · exact hp
    split at e
    · rename_i hs
      cases e
      exact ⟨hs, hp⟩
    · rename_i hs
      exact absurd hs (slot_nodummy hd _).1
    · split at e
      · cases e
      · exact probe_empty hd fuel _ j d hadv e
theorem tab_standIn {b : Bool} {t : SetTable} (h : Tab b t) (n : Nat) : Tab b (t.standIn n) := by
  refine ⟨h.1, rfl, ?_⟩
  show Ris (Array.range n).toList
  rw [Array.toList_range]
  exact List.pairwise_lt_range
theorem tab_layNew {b : Bool} {t : SetTable} (ht : Tab b t) (es : Array (Int × Value)) (h : Int) (x : Value) : Tab b (layNew t es h x).2.1 := by
  unfold layNew
  split
  · rename_i sl wd hs
    dsimp only
    have hput : Tab b (t.put sl).1 := by
      unfold SetTable.freeSlot at hs
      split at hs
      · rename_i j d hp
        obtain ⟨h1, rfl⟩ := probe_empty ht.2.1 _ _ _ _ rfl hp
        cases hs
        have h2 := (slot_nodummy ht.2.1 j).2 h1
        refine ⟨ht.1, ?_, ?_⟩
        · show (if SetTable.has t.dummies _ then _ else t.dummies) = #[]
          rw [ht.2.1]
          rfl
        · exact ris_ins ht.2.2 h2
      · cases hs
    unfold SetTable.orStandIn
    split
    · exact hput
    · exact tab_standIn hput _
  · exact tab_standIn ht _
theorem ris_range_filterMap {α : Type} (f : Nat → Option α) : ∀ (l : List Nat), Ris l → Ris (((l.filterMap fun j => (f j).map (j, ·))).map (·.1))
  | [], _ => List.Pairwise.nil
  | a :: l, h => by
    obtain ⟨h1, h2⟩ := List.pairwise_cons.mp h
    have ih := ris_range_filterMap f l h2
    cases e : f a with
    | none => rw [List.filterMap_cons_none (by rw [e]; rfl)]; exact ih
    | some y =>
      rw [List.filterMap_cons_some (b := (a, y)) (by rw [e]; rfl), List.map_cons]
      refine List.pairwise_cons.mpr ⟨fun b hb => ?_, ih⟩
      obtain ⟨q, hq, rfl⟩ := List.mem_map.mp hb
      obtain ⟨k, hk, e2⟩ := List.mem_filterMap.mp hq
      obtain ⟨z, _, rfl⟩ := Option.map_eq_some_iff.mp e2
      exact h1 k hk
theorem tab_relayAll {b : Bool} {t : SetTable} (ht : Tab b t) (es : Array (Int × Value)) (wanted : Nat) : Tab b (relayAll t es wanted).2.1 := by
  unfold relayAll
  split
  · rename_i t' order hr
    dsimp only
    split
    · unfold SetTable.relaid SetTable.laid at hr
      cases hl : SetTable.layClean (SetTable.sizeAbove wanted - 1) (es.map (·.1)) with
      | none => rw [hl] at hr; cases hr
      | some owner =>
        rw [hl] at hr
        cases hr
        refine ⟨ht.1, rfl, ?_⟩
        show Ris (List.toArray _).toList
        exact ris_range_filterMap _ _ List.pairwise_lt_range
    · exact tab_standIn ht _
  · exact tab_standIn ht _
section
variable {prog : Program} {w : World} {A : Around} {E : Value → Shared → Prop} {s : Shared}
def byT (w : World) : Bool := w.params.followText "set-order"
/-- what stands at a: these entries, that table -/
structure SetAt (prog : Program) (w : World) (h : Heap) (a : Addr) (o : Obj) (es : Array (Int × Value)) (ep : Nat) (t : SetTable) (S : Int → Bool) : Prop where
  at_ : h.get? a = some o
  ex : o.ExactSet
  dat : o.data = .set es ep t
  el : ElemsOf (intKind prog w) es.toList
  mem : ∀ k, S k = true ↔ ∃ e ∈ es.toList, (intKind prog w).is k e.2 = true
  sm : es.size < scanBound
  fit : t.fits es.size = true
  tab : Tab (byT w) t
def SetT (prog : Program) (w : World) (h : Heap) (a : Addr) (S : Int → Bool) (n : Nat) : Prop := ∃ o es ep t, SetAt prog w h a o es ep t S ∧ es.size = n
theorem SetAt.store {h : Heap} {a : Addr} {o : Obj} {es es' : Array (Int × Value)} {ep : Nat} {t t' : SetTable} {S S' : Int → Bool} (z : SetAt prog w h a o es ep t S)
    (hel : ElemsOf (intKind prog w) es'.toList) (hmem : ∀ k, S' k = true ↔ ∃ e ∈ es'.toList, (intKind prog w).is k e.2 = true) (hb : es'.size < scanBound) (hf : t'.fits es'.size = true) (ht : Tab (byT w) t') :
    SetAt prog w (h.update a (Obj.putSet es' t')) a { o with data := .set es' (ep + 1) t' } es' (ep + 1) t' S' :=
  ⟨(SetOf_store (knd := intKind prog w) z.at_ z.ex z.dat hel hmem hb hf).1, z.ex, rfl, hel, hmem, hb, hf, ht⟩
theorem tail_setT {g : Bool → Sem Unit} (hg : ∀ (b : Bool) (s1 : Shared) (R : Unit → Shared → Prop), R () s1 → wpAny (model prog w) A (g b) R E s1)
    {a : Addr} {o : Obj} {es es1 : Array (Int × Value)} {ep : Nat} {t t2 : SetTable} {S S' : Int → Bool} (z : SetAt prog w s.heap a o es ep t S)
    (hel : ElemsOf (intKind prog w) es1.toList) (hmem : ∀ k, S' k = true ↔ ∃ e ∈ es1.toList, (intKind prog w).is k e.2 = true) (hb : es1.size < scanBound) (hf : t2.fits es1.size = true) (ht : Tab (byT w) t2)
    {wd : Bool} {R : Option Bool → Shared → Prop} (h : ∀ h', Heap.SameBut a s.heap h' → SetT prog w h' a S' es1.size → R (some true) { s with heap := h' }) :
    wpAny (model prog w) A (do
      storeSet a es1 t2
      if (!wd && t2.tooFull) = true then do
          g (relayAll t2 es1 (SetTable.grown es1.size)).2.2
          storeSet a (relayAll t2 es1 (SetTable.grown es1.size)).1 (relayAll t2 es1 (SetTable.grown es1.size)).2.1
          pure (some true)
        else pure (some true)) R E s := by
  refine wpAny_bind (wpAny_storeSet_of z.at_ z.dat ?_ (fits_of_scanBound hb))
  have z1 := z.store hel hmem hb hf ht
  have sb := Heap.SameBut.update s.heap a (Obj.putSet es1 t2)
  split
  · have hp := relayAll_perm t2 es1 (SetTable.grown es1.size)
    have hfr := relayAll_fits t2 es1 (SetTable.grown es1.size)
    have htr := tab_relayAll ht es1 (SetTable.grown es1.size)
    generalize relayAll t2 es1 (SetTable.grown es1.size) = L at hp hfr htr ⊢
    obtain ⟨es2, t3, gv⟩ := L
    dsimp only at hp hfr htr ⊢
    have hz : es2.size = es1.size := by
      have := hp.length_eq
      rwa [Array.length_toList, Array.length_toList] at this
    have hb2 : es2.size < scanBound := by omega
    refine wpAny_bind (hg _ _ _ (wpAny_bind (wpAny_storeSet_of z1.at_ rfl ?_ (fits_of_scanBound hb2))))
    have z2 := z1.store (S' := S') (hel.perm hp) (fun k => (hmem k).trans ⟨fun ⟨e, he, q⟩ => ⟨e, hp.mem_iff.mpr he, q⟩, fun ⟨e, he, q⟩ => ⟨e, hp.mem_iff.mp he, q⟩⟩) hb2 hfr htr
    exact wpAny_pure (h _ (sb.trans (Heap.SameBut.update _ a _)) ⟨_, _, _, _, z2, hz⟩)
  · exact wpAny_pure (h _ sb ⟨_, _, _, _, z1, rfl⟩)
theorem add_setT {a : Addr} {S : Int → Bool} {n : Nat} {k : Int} {x : Value} {Q : Bool → Shared → Prop} (hk : (intKind prog w).is k x = true) (hx : x.scannable = true) (hS : SetT prog w s.heap a S n) (hr : n + 1 < scanBound)
    (h : ∀ h', Heap.SameBut a s.heap h' → SetT prog w h' a (fun k' => S k' || decide (k' = k)) (if S k then n else n + 1) → Q (!S k) { s with heap := h' }) :
    wpAny (model prog w) A (setAddHashed a x ((intKind prog w).hash k)) Q E s := by
  obtain ⟨o, es, ep, t, z, hn⟩ := hS
  unfold setAddHashed setAddHashedIn
  refine wpAny_holding (wpAny_bind (wpAny_setState_of z.at_ z.dat z.fit ?_))
  dsimp only
  rw [byScan_of hx z.sm z.el]
  simp only [↓reduceIte]
  unfold setAddByScan
  refine wpAny_bind (wpAny_bind (wpAny_rule (wpAny_bind (wpAny_setScan_of hk z.at_ z.dat z.fit z.el ?_))))
  cases hf : List.findIdx? (fun e => (intKind prog w).is k e.2) es.toList with
  | some j =>
    dsimp only
    obtain ⟨hj, hpj, _⟩ := List.findIdx?_eq_some_iff_getElem.mp hf
    have hSk : S k = true := (z.mem k).mpr ⟨_, List.getElem_mem hj, hpj⟩
    refine wpAny_pure (wpAny_pure ?_)
    have e0 : s = { s with heap := s.heap } := by cases s; rfl
    have q := h s.heap (Heap.SameBut.refl a s.heap) ⟨o, es, ep, t, ⟨z.at_, z.ex, z.dat, z.el, fun k' => ?_, z.sm, z.fit, z.tab⟩, by rw [hSk]; exact hn⟩
    · rw [hSk] at q; rw [e0]; exact q
    · rw [Bool.or_eq_true, decide_eq_true_eq, ← z.mem k']
      exact ⟨fun hq => hq.elim id fun e => e ▸ hSk, .inl⟩
  | none =>
    dsimp only
    have hSk : S k = false := by
      cases hq : S k with
      | false => rfl
      | true =>
        obtain ⟨e, he, hp⟩ := (z.mem k).mp hq
        have := List.findIdx?_eq_none_iff.mp hf e he
        rw [hp] at this; cases this
    have hgw : ∀ (b : Bool) {s1 : Shared} {R : Unit → Shared → Prop}, R () s1 → wpAny (model prog w) A (match b with | true => rule "set.scan.the-table-gave-way" | false => pure ()) R E s1 := fun b s1 R q => by
      cases b
      · exact wpAny_pure q
      · exact wpAny_rule q
    have hp := layNew_perm t es ((intKind prog w).hash k) x
    have hfi := layNew_fits t es ((intKind prog w).hash k) x
    have hta := tab_layNew z.tab es ((intKind prog w).hash k) x
    generalize layNew t es ((intKind prog w).hash k) x = L at hp hfi hta ⊢
    obtain ⟨es1, t1, wd, gv⟩ := L
    dsimp only at hp hfi hta ⊢
    rw [Array.toList_push] at hp
    have hz : es1.size = n + 1 := by
      have := hp.length_eq
      rw [List.length_append, Array.length_toList, Array.length_toList, hn] at this
      exact this
    have hend : ∀ h', Heap.SameBut a s.heap h' → SetT prog w h' a (fun k' => S k' || decide (k' = k)) es1.size → Q true { s with heap := h' } := fun h' sb hS' => by
      have q := h h' sb
      rw [hSk] at q
      rw [hz] at hS'
      exact q hS'
    refine wpAny_bind (hgw _ ?_)
    split
    · refine wpAny_bind ?_
      rw [hashByValue_scannable 8 hx]
      refine wpAny_pure ?_
      refine tail_setT (S' := fun k' => S k' || decide (k' = k)) ?_ z ((z.el.push hk hx).perm hp) (mem_push_iff hk z.mem hp) (by omega) ?_ ?_ ?_
      · intro b s1 R q
        cases b
        · exact wpAny_pure q
        · exact wpAny_rule q
      · split
        · exact hfi
        · exact SetTable.fits_plain_off hfi
      · split
        · exact hta
        · exact hta
      · intro h' sb hS'
        exact wpAny_pure (hend h' sb hS')
    · refine wpAny_bind (wpAny_pure ?_)
      simp only [↓reduceIte]
      refine tail_setT (S' := fun k' => S k' || decide (k' = k)) ?_ z ((z.el.push hk hx).perm hp) (mem_push_iff hk z.mem hp) (by omega) hfi hta ?_
      · intro b s1 R q
        cases b
        · exact wpAny_pure q
        · exact wpAny_rule q
      · intro h' sb hS'
        exact wpAny_pure (hend h' sb hS')
end
section
variable {prog : Program} {w : World}
theorem SetT.keep {h h' : Heap} {a : Addr} {S : Int → Bool} {n : Nat} (z : SetT prog w h a S n) (k : ∀ o, h.get? a = some o → h'.get? a = some o) : SetT prog w h' a S n := by
  obtain ⟨o, es, ep, t, z, hn⟩ := z
  exact ⟨o, es, ep, t, ⟨k o z.at_, z.ex, z.dat, z.el, z.mem, z.sm, z.fit, z.tab⟩, hn⟩
theorem SetT.as {h : Heap} {a : Addr} {S S' : Int → Bool} {n n' : Nat} (z : SetT prog w h a S n) (e : ∀ k, S k = S' k) (en : n = n') : SetT prog w h a S' n' := by
  have : S = S' := funext e
  subst this en
  exact z
/-- of the first i values, each once -/
def metS (val : Nat → Int) (i : Nat) : Int → Bool := fun k => (firstMet val i).any (· == k)
theorem loop_setT {A : Around} {R : Result → Shared → Prop} {I : Addr} {fp wr : List Addr} {G : Array GenState → Array GenState → Prop} {n : Nat} {P : Nat → Value → Prop} {St : Nat → Shared → Prop}
    (W : WalksS prog w A.in1 I fp wr G n P St) (a : Addr) (ha : a ∉ fp) (val : Nat → Int) (hv : ∀ i v, P i v → ∃ t, v = .int (val i) t) (hb : n + 1 < scanBound) :
    ∀ (k i : Nat) (s : Shared), n - i = k → i ≤ n → St i s → SetT prog w s.heap a (metS val i) (firstMet val i).length →
      (∀ s', Moved (a :: wr) G s s' → SetT prog w s'.heap a (metS val n) (firstMet val n).length → R (.ok (.ret .none)) s') →
      codeAny (model prog w) A (.builtin "set.update.loop" ⟨[.ref a, .ref I], []⟩) R s := by
  have haw : a ∉ wr := fun q => ha (W.sub _ q)
  have hsub : ∀ b ∈ wr, b ∈ a :: wr := fun b q => List.mem_cons_of_mem _ q
  intro k
  induction k with
  | zero =>
    intro i s hk hi st z q
    have e : i = n := by omega
    subst e
    refine codeAny_builtin F.entry_set_update_loop ?_
    rw [Around.under_plainId F.plain_set_update_loop _]
    show wpAny _ A.in1 (pyNext (.ref I) >>= _) _ _ s
    refine wpAny_bind (W.done s _ _ st fun s' hm => ?_)
    exact wpAny_pure (q s' (hm.mono hsub) (z.keep fun o e => hm.heap a o haw e))
  | succ k ih =>
    intro i s hk hi st z q
    have hlt : i < n := by omega
    refine codeAny_builtin F.entry_set_update_loop ?_
    rw [Around.under_plainId F.plain_set_update_loop _]
    show wpAny _ A.in1 (pyNext (.ref I) >>= _) _ _ s
    refine wpAny_bind (W.item i s _ _ hlt st fun v s' hP st' hm => ?_)
    obtain ⟨tk, rfl⟩ := hv i v hP
    have z' := z.keep fun o e => hm.heap a o haw e
    show wpAny _ A.in1 (holding [Value.int (val i) tk] (setAdd a (.int (val i) tk)) >>= _) _ _ s'
    refine wpAny_bind (wpAny_holding ?_)
    unfold setAdd
    refine wpAny_holding (wpAny_bind ((intKind prog w).pyHash (k := val i) (intKind_is _ _ _ _) ?_))
    have hlen := firstMet_length_le val i
    refine add_setT (s := { s' with toks := s'.toks + 1 }) (intKind_is _ _ _ _) rfl z' (by omega) fun h' sb z2 => ?_
    have z3 : SetT prog w h' a (metS val (i + 1)) (firstMet val (i + 1)).length := z2.as (fun k' => by unfold metS; rw [firstMet_succ, step_any]) (by unfold metS; rw [firstMet_succ, step_length])
    refine wpAny_pure ⟨plainId_quiet F.plain_set_update_loop _, ih (i + 1) _ (by omega) hlt (W.frame _ s' _ _ st' (Nat.le_succ _) fun b hb o e => ?_) z3 fun s2 hm2 z4 => ?_⟩
    · rw [sb.2 b fun q => ha (by rw [← q]; exact hb)]; exact e
    · refine q s2 (Moved.trans W.gtrans ((hm.mono hsub).then_heap (Nat.le_succ _) fun b o hb e => ?_) hm2) z4
      rw [sb.2 b fun q => hb (by rw [q]; exact List.mem_cons_self)]; exact e
variable {A : Around} {E : Value → Shared → Prop} {s : Shared}
def newS (w : World) : Obj := { cls := .type "set", dict := none, data := .set #[] 0 (.fresh 0 0 (!byT w)) }
theorem new_set (a : Value) {Q : Value → Shared → Prop} (h : Q (.ref s.heap.objs.size) { s with heap := s.heap.push (newS w) }) :
    codeAny (model prog w) A (.call (.builtin "set.__new__") ⟨[.type "set", a], []⟩) (wants Q E) s := by
  refine codeAny_of_tree ?_
  show wpAny _ A.in1 (do checkBuiltinCall "set.__new__" ⟨[.type "set", a], []⟩; again (.builtin "set.__new__" ⟨[.type "set", a], []⟩)) _ _ s
  refine wpAny_bind (wpAny_of_eq (F.newCall_set_1 a) (wpAny_pure ⟨plainId_quiet F.plain_set_new _, codeAny_builtin F.entry_set_new ?_⟩))
  rw [Around.under_plainId F.plain_set_new _]
  unfold Builtin.«set.__new__» Builtin.Frozenset.newClass
  have hsub := sub_set_self
  obtain ⟨hp, g, d, tk, os⟩ := s
  dsimp only
  wp_walk
  refine wpAny_askSetting (wpAny_pure ?_)
  dsimp only
  simp only [newObj]
  exact wpAny_bind (wpAny_alloc (wpAny_pure (wpAny_pure h)))
theorem newS_setT {h : Heap} {a : Addr} (e : h.get? a = some (newS w)) : SetT prog w h a (fun _ => false) 0 := by
  refine ⟨newS w, #[], 0, .fresh 0 0 (!byT w), ⟨e, ⟨rfl, rfl, rfl⟩, rfl, fun e he => by simp at he, fun k => by simp, by decide, by rfl, fun hb => ?_, rfl, List.Pairwise.nil⟩, rfl⟩
  show (!byT w) = true
  rw [hb]; rfl
end
section
variable {prog : Program} {w : World} {A : Around} {E : Value → Shared → Prop} {s : Shared}
theorem set_of_list {l : Addr} {its : Array Value} {ns : List Int} {Q : Value → Shared → Prop} (hh : A.handled = none) (hl : s.heap.IsList l its) (hi : IntsAre its.toList ns) (hb : its.size + 1 < scanBound)
    (h : ∀ (h' : Heap) (tk : Nat), SetT prog w h' s.heap.objs.size (metS (fun i => ns.getD i 0) its.size) (firstMet (fun i => ns.getD i 0) its.size).length →
      (∀ b o, b < s.heap.objs.size → s.heap.get? b = some o → h'.get? b = some o) → Q (.ref s.heap.objs.size) { s with heap := h', toks := tk }) :
    wpAny (model prog w) A (call (.type "set") [.ref l]) Q E s := by
  obtain ⟨c, tl, hmro⟩ := F.called_set.mro
  have hmade := F.called_set.made
  have hsub := F.called_set.sub
  refine wpAny_call (codeAny_of_tree ?_)
  show wpAny _ _ (callAny (.type "set") _) _ _ _
  refine wpAny_pure ⟨Code.quiet_builtin _ (by decide +kernel), codeAny_builtin F.entry_type_call ?_⟩
  rw [Around.under_plain (weight_type_call_type "set" [.ref l] []) rfl]
  have h1 := F.called_set.notType
  have h2 := F.called_set.canCreate
  have hct := F.typeCall_set_1 (.ref l)
  repeat (any_goals (first | assumption | wp_step))
  refine codeAny_mono (new_set (.ref l) (E := E) (Q := fun ob s1 => ob = .ref s.heap.objs.size ∧ s1 = { s with heap := s.heap.push (newS w) }) ⟨rfl, rfl⟩) fun r s1 hr => ?_
  cases r with
  | error e => exact hr
  | ok fl =>
    cases fl with
    | ret ob =>
      obtain ⟨rfl, rfl⟩ := hr
      have hS : (s.heap.push (newS w)).get? s.heap.objs.size = some (newS w) := Heap.get?_push_size _ rfl
      have hT : Shared.TypeIs { s with heap := s.heap.push (newS w) } (.ref s.heap.objs.size) "set" := ⟨_, hS, rfl⟩
      have hli := F.called_set.init.lookup
      have hbi := F.called_set.init.bind (.ref s.heap.objs.size)
      repeat (any_goals (first | assumption | wp_step))
      refine codeAny_mono (codeAny_call_builtin (R := wants (fun r s2 => r = .none ∧ ∃ h' tk, s2 = { s with heap := h', toks := tk } ∧
          SetT prog w h' s.heap.objs.size (metS (fun i => ns.getD i 0) its.size) (firstMet (fun i => ns.getD i 0) its.size).length ∧
          (∀ b o, b < s.heap.objs.size → s.heap.get? b = some o → h'.get? b = some o)) E) F.called_set.init.plain F.entry_set_init (check_set_init_1 hT ?_)) fun r2 s2 hr2 => ?_
      · obtain ⟨ol, hol, hcl, nl, hdl⟩ := hl
        obtain ⟨ocls, odict, odata, oslots⟩ := ol
        simp only at hcl hdl
        subst hcl hdl
        have hol' : (s.heap.push (newS w)).get? l = some { cls := .type "list", dict := odict, data := .seq its nl, slots := oslots } := Heap.get?_push_of_some _ hol
        have x1 := F.sub_list_set
        have x2 := F.sub_list_frozenset
        have x3 : (Value.type "list" == Value.type "dict") = false := by decide
        have hl1 : (s.heap.push (newS w)).IsList l its := ⟨_, hol', rfl, nl, rfl⟩
        unfold Builtin.«set.__init__» noKeywords Builtin.Frozenset.updateFrom
        generalize hPI : pyIter = PI
        wp_walk
        subst hPI
        refine wpAny_pyIter_list hl1 (wpAny_bind (wpAny_runValue ?_))
        have hlS : l < s.heap.objs.size := Heap.lt_size hol
        have hsz : (s.heap.push (newS w)).objs.size = s.heap.objs.size + 1 := Heap.size_push ..
        have hf : s.heap.objs.size ∉ [(s.heap.push (newS w)).objs.size, l] := by
          rw [hsz]
          simp only [List.mem_cons, List.not_mem_nil, or_false, not_or]
          exact ⟨Nat.ne_of_lt (Nat.lt_succ_self _), Nat.ne_of_gt hlS⟩
        have hv : ∀ (i : Nat) (v : Value), its[i]? = some v → ∃ t, v = .int ((fun i => ns.getD i 0) i) t := fun i v e => IntsAre.int_at hi i v (by rw [Array.getElem?_toList]; exact e)
        refine loop_setT ((Walks.list (by simp [hh]) _ l (by rw [hsz]; exact Nat.ne_of_lt (Nat.lt_succ_of_lt hlS)) its).toS) s.heap.objs.size hf (fun i => ns.getD i 0) hv hb (its.size - 0) 0 _ (by omega) (Nat.zero_le _) ⟨⟨_, Heap.get?_push_size _ rfl, rfl, rfl⟩, hl1.push _⟩ ?z0 ?zR
        case z0 =>
          exact (newS_setT (Heap.get?_push_of_some _ hS)).as (fun _ => rfl) rfl
        case zR =>
          intro s' hm z
          obtain ⟨h', g', d', tk', os'⟩ := s'
          have eg : g' = s.gens := hm.gens
          have ed : d' = s.drawn := hm.drawn
          have eo : os' = s.os := hm.os
          subst eg ed eo
          refine wpAny_pure (wpAny_pure ⟨rfl, h', tk', rfl, z, fun b o hb e => ?_⟩)
          refine hm.heap b o ?_ (Heap.get?_push_of_some _ (Heap.get?_push_of_some _ e))
          simp only [List.mem_cons, List.not_mem_nil, or_false, not_or]
          exact ⟨Nat.ne_of_lt hb, by rw [hsz]; exact Nat.ne_of_lt (Nat.lt_succ_of_lt hb)⟩
      · cases r2 with
        | error e => exact hr2
        | ok fl2 =>
          cases fl2 with
          | ret r =>
            obtain ⟨rfl, h', tk, rfl, z, hk⟩ := hr2
            repeat (any_goals (first | assumption | wp_step))
            exact h _ _ z hk
          | _ => exact hr2.elim
    | _ => exact hr.elim
end
end L2

namespace L2
open PySem PySem.Spec PyProof.Rows
theorem erase_perm {α : Type} {xs : List α} {i : Nat} (hi : i < xs.length) : (xs[i] :: xs.eraseIdx i).Perm xs := by
  rw [List.eraseIdx_eq_take_drop_succ]
  have e : xs = xs.take i ++ xs[i] :: xs.drop (i + 1) := by
    rw [List.getElem_cons_drop, List.take_append_drop]
  refine List.Perm.trans List.perm_middle.symm ?_
  rw [← e]
section
variable {M : Model} {A : Around} {E : Value → Shared → Prop}
theorem wp_choose {src : Source} {n : Nat} {s : Shared} {Q : Nat → Shared → Prop} (hn : n ≠ 0) (h : ∀ (i : Nat) (d : Drawn), i < n → Q i { s with drawn := d }) : wpAny M A (choose src n) Q E s := by
  intro Γ p hΓ
  show Sem.wp M Γ (.choose src n .pure) _ _ p s
  rw [Sem.wp]
  exact ⟨hn, h _ _ (Nat.mod_lt _ (Nat.pos_of_ne_zero hn))⟩
theorem wp_drawOrder {α : Type} : ∀ (n : Nat) (xs : List α) (s : Shared) {Q : List α → Shared → Prop}, xs.length = n → (∀ ys d, ys.Perm xs → Q ys { s with drawn := d }) → wpAny M A (drawOrder n xs) Q E s
  | 0, xs, s, Q, hn, h => by
    have e : xs = [] := List.length_eq_zero_iff.mp hn
    subst e
    have e0 : s = { s with drawn := s.drawn } := by cases s; rfl
    unfold drawOrder
    refine wpAny_pure ?_
    rw [e0]
    exact h [] s.drawn .rfl
  | n + 1, [], s, Q, hn, h => by cases hn
  | n + 1, x :: xs, s, Q, hn, h => by
    unfold drawOrder
    refine wpAny_bind (wp_choose (by simp) fun i d hi => ?_)
    rw [List.getElem?_eq_getElem hi]
    dsimp only
    refine wpAny_bind (wp_drawOrder n _ _ (by rw [List.length_eraseIdx, if_pos hi, hn]; rfl) fun ys d' hp => wpAny_pure (h _ _ ?_))
    exact (List.Perm.cons _ hp).trans (erase_perm hi)
end
theorem pick_go {α : Type} (next : Nat → Nat) : ∀ (n k : Nat) (left : List α) (out : Array α), left.length = n → (pickOrder.go next n k left out).toList.Perm (out.toList ++ left)
  | 0, k, left, out, hn => by
    have e : left = [] := List.length_eq_zero_iff.mp hn
    subst e
    unfold pickOrder.go
    rw [List.append_nil]
  | n + 1, k, left, out, hn => by
    have hi : next k % left.length < left.length := Nat.mod_lt _ (by omega)
    unfold pickOrder.go
    rw [List.getElem?_eq_getElem hi]
    dsimp only
    refine (pick_go next n (k + 1) _ _ (by rw [List.length_eraseIdx, if_pos hi, hn]; rfl)).trans ?_
    rw [Array.toList_push, List.append_assoc]
    exact (List.Perm.refl _).append (erase_perm hi)
theorem pick_perm {α : Type} (next : Nat → Nat) (xs : Array α) : (pickOrder next xs).toList.Perm xs.toList := by
  unfold pickOrder
  refine (pick_go next xs.size 0 xs.toList #[] (by simp)).trans ?_
  rw [List.nil_append]
theorem slot_si_next : Slot "set_iterator" "__next__" "set_iterator.__next__" := .of (owner := "set_iterator") (n := "__next__") (by rw [typeLookup_type, builtinLookup_eq_fast]; kernel_rfl) (by decide +kernel) (by decide +kernel) (by decide +kernel) (by first | exact .inl (by decide +kernel) | exact .inr (by decide +kernel)) (by rw [isSubtype_type]; kernel_rfl)
theorem owner_si : Manifest.owners.lookup (String.ofList ['r', 'o', 't', 'a', 'r', 'e', 't', 'i', '_', 't', 'e', 's'].reverse) = some Manifest.sig_set_iterator := by kernel_rfl
theorem args_si_next (a : Value) : argsOk "set_iterator.__next__" ⟨[a], []⟩ := by
  unfold argsOk; rw [signature?_of (id := "set_iterator.__next__") (n := ['_', '_', 't', 'x', 'e', 'n', '_', '_']) (o := ['r', 'o', 't', 'a', 'r', 'e', 't', 'i', '_', 't', 'e', 's']) (by kernel_rfl) owner_si]; kernel_rfl
theorem entry_si_next : entryFor table "set_iterator.__next__" = some Builtin.«set_iterator.__next__» := entryFor_of_tree (by kernel_rfl)
theorem entry_set_iter : entryFor table "set.__iter__" = some Builtin.«frozenset.__iter__» := entryFor_alias (id' := "frozenset.__iter__") (by kernel_rfl) rfl (by decide +kernel) (by kernel_rfl)
theorem slot_si_iter : Slot "set_iterator" "__iter__" "set_iterator.__iter__" := .of (owner := "set_iterator") (n := "__iter__") (by rw [typeLookup_type, builtinLookup_eq_fast]; kernel_rfl) (by decide +kernel) (by decide +kernel) (by decide +kernel) (by first | exact .inl (by decide +kernel) | exact .inr (by decide +kernel)) (by rw [isSubtype_type]; kernel_rfl)
theorem args_si_iter (a : Value) : argsOk "set_iterator.__iter__" ⟨[a], []⟩ := by
  unfold argsOk; rw [signature?_of (id := "set_iterator.__iter__") (n := ['_', '_', 'r', 'e', 't', 'i', '_', '_']) (o := ['r', 'o', 't', 'a', 'r', 'e', 't', 'i', '_', 't', 'e', 's']) (by kernel_rfl) owner_si]; kernel_rfl
theorem entry_si_iter : entryFor table "set_iterator.__iter__" = some Builtin.«dict_keyiterator.__iter__» := entryFor_alias (id' := "dict_keyiterator.__iter__") (by kernel_rfl) rfl (by decide +kernel) (by kernel_rfl)
end L2

namespace L2
open PySem PySem.Spec PyProof.Rows
/-! ### an iterator of a set -/
def IsSI (h : Heap) (it : Addr) (first : Value) (i : Nat) (a : Addr) (n ep : Nat) : Prop := ∃ o, h.get? it = some o ∧ o.cls = .type "set_iterator" ∧ o.data = .fields #[first, rawInt i, .ref a, rawInt n, rawInt ep]
section
variable {prog : Program} {w : World} {A : Around} {E : Value → Shared → Prop} {s : Shared}
theorem IsSI.ty {it a : Addr} {first : Value} {i n ep : Nat} (h : IsSI s.heap it first i a n ep) : s.TypeIs (.ref it) "set_iterator" := by
  obtain ⟨o, ho, hc, _⟩ := h
  exact ⟨o, ho, hc⟩
theorem IsSI.keep {h h' : Heap} {it a : Addr} {first : Value} {i n ep : Nat} (z : IsSI h it first i a n ep) (k : ∀ o, h.get? it = some o → h'.get? it = some o) : IsSI h' it first i a n ep := by
  obtain ⟨o, ho, r⟩ := z
  exact ⟨o, k o ho, r⟩
theorem si_self {it a : Addr} {first : Value} {i n ep : Nat} {Q : Value → Shared → Prop} (z : IsSI s.heap it first i a n ep) (h : Q (.ref it) s) : wpAny (model prog w) A (pyIter (.ref it)) Q E s := by
  refine wpAny_pyIter_slot z.ty slot_si_iter (wpAny_call_entry slot_si_iter z.ty entry_si_iter ?_ (args_si_iter _))
  show wpAny _ _ (ret (.ref it)) _ _ s
  exact wpAny_pure ⟨_, rfl, "set_iterator", _, z.ty, slot_si_next.lookup, h⟩
theorem si_next {it a : Addr} {o : Obj} {es : Array (Int × Value)} {t : SetTable} {i n ep sl nx : Nat} {x : Value} {Q : Option Value → Shared → Prop} (z : IsSI s.heap it (rawInt sl) i a n ep)
    (ho : s.heap.get? a = some o) (hd : o.data = .set es ep t) (hf : t.fits es.size = true) (hn : es.size = n)
    (hx : ∀ (E' : Value → Shared → Prop) (R : Option (Value × Nat) → Shared → Prop), R (some (x, nx)) s → wpAny (model prog w) A.in1 (setNext a sl i ep) R E' s)
    (hQ : ∀ h', IsSI h' it (rawInt nx) (i + 1) a n ep → Heap.SameBut it s.heap h' → Q (some x) { s with heap := h' }) : wpAny (model prog w) A (pyNext (.ref it)) Q E s := by
  obtain ⟨oi, hi, hc, hdi⟩ := id z
  unfold pyNext
  refine wpAny_bind (wpAny_attempt (wpAny_callSpecial?_slot (name := Str.ofString "__next__") z.ty slot_si_next (wpAny_call_entry slot_si_next z.ty entry_si_next ?_ (args_si_next _))))
  unfold Builtin.«set_iterator.__next__»
  refine wpAny_bind (wpAny_of_eq (show slotArgs "__next__" 0 ⟨[.ref it], []⟩ = pure (.ref it, []) from rfl) ?_)
  refine wpAny_bind (wpAny_fieldsOf hi hdi ?_)
  dsimp only [rawInt]
  refine wpAny_bind (wpAny_setEntries_of ho hd hf ?_)
  rw [hn]
  simp only [bne_self_eq_false, Bool.false_eq_true, if_false, Int.toNat_natCast]
  refine wpAny_bind (hx _ _ ?_)
  dsimp only
  refine wpAny_bind (wpAny_setField hi hdi (by simp) ?_)
  have h1 := Heap.get?_update_self (Obj.mapFields (·.setIfInBounds 0 (Value.int nx 0))) hi (Obj.isFreed_of_fields (Obj.data_mapFields hdi _))
  have d1 := Obj.data_mapFields hdi (·.setIfInBounds 0 (Value.int nx 0))
  refine wpAny_bind (wpAny_setField h1 d1 (by simp) (wpAny_pure ⟨x, rfl, wpAny_pure (hQ _ ?_ ((Heap.SameBut.update ..).trans (Heap.SameBut.update ..)))⟩))
  refine ⟨_, Heap.get?_update_self _ h1 (Obj.isFreed_of_fields (Obj.data_mapFields d1 _)), (Obj.cls_mapFields ..).trans ((Obj.cls_mapFields ..).trans hc), ?_⟩
  rw [Obj.data_mapFields d1]
  simp [rawInt]
theorem stop_off {s1 : Shared} {Q : Option Value → Shared → Prop} (hh : A.handled = none) (hQ : ∀ h', (∀ b o, s1.heap.get? b = some o → h'.get? b = some o) → Q none { s1 with heap := h' }) :
    wpAny (model prog w) A.in1 ((do let e ← newExc (.type "StopIteration") []; raiseNew e) : Sem Fin) (fun fin s' => ∃ v, fin = Fin.done (Flow.ret v) ∧ wpAny (model prog w) A (pure (some v)) Q E s')
      (fun e s' => wpAny (model prog w) A (do let b ← isInstance e (.type "StopIteration"); if b = true then pure none else throw e) Q E s') s1 := by
  refine wpAny_bind ?_
  simp only [newExc, newTuple]
  refine wpAny_bind (wpAny_newObj_type ?_ (by size_fits))
  refine wpAny_bind (m := firstArgMember _ _) (wpAny_of_eq (a := Value.none) (by first | rfl | (simp only [firstArgMember]; rfl)) (wpAny_newObj_type ?_ (by size_fits)))
  simp only [raiseNew]
  refine wpAny_bind (wpAny_handled ?_)
  have e1 : A.in1.handled = none := hh
  rw [e1]
  refine wpAny_bind (wpAny_pure (wpAny_throw ?_))
  refine wpAny_bind (wpAny_isInstance (b := true) (T := "StopIteration") ⟨_, Heap.get?_push_size _ rfl, rfl⟩ isSubtype_stop ?_)
  exact wpAny_pure (hQ _ fun b o e => Heap.get?_push_of_some _ (Heap.get?_push_of_some _ e))
theorem si_end {it a : Addr} {o : Obj} {es : Array (Int × Value)} {t : SetTable} {i n ep sl : Nat} {Q : Option Value → Shared → Prop} (hh : A.handled = none) (z : IsSI s.heap it (rawInt sl) i a n ep)
    (ho : s.heap.get? a = some o) (hd : o.data = .set es ep t) (hf : t.fits es.size = true) (hn : es.size = n)
    (hx : ∀ (E' : Value → Shared → Prop) (R : Option (Value × Nat) → Shared → Prop), R none s → wpAny (model prog w) A.in1 (setNext a sl i ep) R E' s)
    (hQ : ∀ h', (∀ b o, b ≠ it → s.heap.get? b = some o → h'.get? b = some o) → Q none { s with heap := h' }) : wpAny (model prog w) A (pyNext (.ref it)) Q E s := by
  obtain ⟨oi, hi, hc, hdi⟩ := id z
  unfold pyNext
  refine wpAny_bind (wpAny_attempt (wpAny_callSpecial?_slot (name := Str.ofString "__next__") z.ty slot_si_next (wpAny_call_entry slot_si_next z.ty entry_si_next ?_ (args_si_next _))))
  unfold Builtin.«set_iterator.__next__»
  refine wpAny_bind (wpAny_of_eq (show slotArgs "__next__" 0 ⟨[.ref it], []⟩ = pure (.ref it, []) from rfl) ?_)
  refine wpAny_bind (wpAny_fieldsOf hi hdi ?_)
  dsimp only [rawInt]
  refine wpAny_bind (wpAny_setEntries_of ho hd hf ?_)
  rw [hn]
  simp only [bne_self_eq_false, Bool.false_eq_true, if_false, Int.toNat_natCast]
  refine wpAny_bind (hx _ _ ?_)
  dsimp only
  refine wpAny_bind (wpAny_setField hi hdi (by simp) ?_)
  refine stop_off hh fun h' x => hQ h' fun b o hb e => x b o ?_
  exact (Heap.get?_update_other _ _ (Ne.symm hb)).trans e
end
end L2

namespace L2
open PySem PySem.Spec PyProof.Rows
section
variable {prog : Program} {w : World} {A : Around} {E : Value → Shared → Prop} {s : Shared} {a : Addr} {o : Obj} {es : Array (Int × Value)} {t : SetTable} {ep : Nat}
theorem setNext_text {sl i : Nat} {Q : Option (Value × Nat) → Shared → Prop} (hb : byT w = true) (ho : s.heap.get? a = some o) (hd : o.data = .set es ep t) (hf : t.fits es.size = true)
    (h : Q (((pickOrder (w.params.setOrder a ep) es)[i]?).map fun e => (e.2, sl)) s) : wpAny (model prog w) A (setNext a sl i ep) Q E s := by
  have hb' : (model prog w).w.params.followText "set-order" = true := hb
  unfold setNext setsByText
  refine wpAny_bind (wpAny_setState_of ho hd hf ?_)
  dsimp only
  refine wpAny_bind (wpAny_bind (wpAny_askSetting (wpAny_pure ?_)))
  dsimp only
  rw [hb']
  simp only [if_true, bne_self_eq_false, Bool.false_eq_true, if_false]
  unfold setWalk setsByText
  refine wpAny_bind (wpAny_bind (wpAny_setState_of ho hd hf ?_))
  dsimp only
  refine wpAny_bind (wpAny_bind (wpAny_askSetting (wpAny_pure ?_)))
  dsimp only
  rw [hb']
  simp only [if_true]
  refine wpAny_bind (wpAny_askSetting (wpAny_pure (wpAny_pure ?_)))
  exact h
theorem setNext_plain {sl i : Nat} {Q : Option (Value × Nat) → Shared → Prop} (hb : byT w = false) (hp : (!t.plain && decide (es.size > 1)) = false) (hl : t.led = true) (ho : s.heap.get? a = some o) (hd : o.data = .set es ep t) (hf : t.fits es.size = true)
    (h : Q (match es[SetTable.below t.place sl]?, t.place[SetTable.below t.place sl]? with
      | some (_, x), some j => some (x, j + 1)
      | _, _ => none) s) : wpAny (model prog w) A (setNext a sl i ep) Q E s := by
  have hb' : (model prog w).w.params.followText "set-order" = false := hb
  unfold setNext setsByText
  refine wpAny_bind (wpAny_setState_of ho hd hf ?_)
  dsimp only
  refine wpAny_bind (wpAny_bind (wpAny_askSetting (wpAny_pure ?_)))
  dsimp only
  rw [hb']
  simp only [Bool.false_eq_true, if_false]
  split
  · rename_i hc
    have hc' : (!t.plain && decide (es.size > 1)) = true := hc
    rw [hp] at hc'
    cases hc'
  · refine wpAny_bind ?_
    show wpAny _ _ (if (!t.led && !es.isEmpty) = true then unsupported "set:maker-not-led" else pure ()) _ _ _
    rw [hl]
    exact wpAny_pure (wpAny_pure h)
/-- the places drawn -/
theorem si_nextD {A : Around} {it tp : Addr} {i n : Nat} {ps : List Nat} {j : Nat} {x : Value} {kx : Int} {Q : Option Value → Shared → Prop} (z : IsSI s.heap it (.ref tp) i a n ep)
    (ho : s.heap.get? a = some o) (hd : o.data = .set es ep t) (hf : t.fits es.size = true) (hn : es.size = n) (ht : s.heap.IsTuple tp (ps.map fun k => rawInt (k : Nat)).toArray) (hj : ps[i]? = some j) (hx : es[j]? = some (kx, x))
    (hQ : ∀ h', IsSI h' it (.ref tp) (i + 1) a n ep → Heap.SameBut it s.heap h' → Q (some x) { s with heap := h' }) : wpAny (model prog w) A (pyNext (.ref it)) Q E s := by
  obtain ⟨oi, hi, hc, hdi⟩ := id z
  obtain ⟨ot, hot, _, nt, hdt⟩ := ht
  unfold pyNext
  refine wpAny_bind (wpAny_attempt (wpAny_callSpecial?_slot (name := Str.ofString "__next__") z.ty slot_si_next (wpAny_call_entry slot_si_next z.ty entry_si_next ?_ (args_si_next _))))
  unfold Builtin.«set_iterator.__next__»
  refine wpAny_bind (wpAny_of_eq (show slotArgs "__next__" 0 ⟨[.ref it], []⟩ = pure (.ref it, []) from rfl) ?_)
  refine wpAny_bind (wpAny_fieldsOf hi hdi ?_)
  dsimp only [rawInt]
  refine wpAny_bind (wpAny_setEntries_of ho hd hf ?_)
  rw [hn]
  simp only [bne_self_eq_false, Bool.false_eq_true, if_false, Int.toNat_natCast]
  refine wpAny_bind (wpAny_seqItems hot hdt ?_)
  have hp : ((ps.map fun k => rawInt (k : Nat)).toArray)[i]? = some (rawInt j) := by
    rw [List.getElem?_toArray, List.getElem?_map, hj]; rfl
  dsimp only
  rw [hp]
  dsimp only [rawInt]
  unfold setNextDrawn
  refine wpAny_bind (wpAny_bind (wpAny_setState_of ho hd hf ?_))
  dsimp only
  simp only [bne_self_eq_false, Bool.false_eq_true, if_false, Int.toNat_natCast]
  rw [hx]
  dsimp only
  refine wpAny_pure (wpAny_bind (wpAny_setField hi hdi (by simp) (wpAny_pure ⟨x, rfl, wpAny_pure (hQ _ ?_ (Heap.SameBut.update ..))⟩)))
  refine ⟨_, Heap.get?_update_self _ hi (Obj.isFreed_of_fields (Obj.data_mapFields hdi _)), (Obj.cls_mapFields ..).trans hc, ?_⟩
  rw [Obj.data_mapFields hdi]
  simp [rawInt]
theorem si_endD {A : Around} {it tp : Addr} {i n : Nat} {ps : List Nat} {Q : Option Value → Shared → Prop} (hh : A.handled = none) (z : IsSI s.heap it (.ref tp) i a n ep)
    (ho : s.heap.get? a = some o) (hd : o.data = .set es ep t) (hf : t.fits es.size = true) (hn : es.size = n) (ht : s.heap.IsTuple tp (ps.map fun k => rawInt (k : Nat)).toArray) (hj : ps[i]? = none)
    (hQ : ∀ h', (∀ b o, b ≠ it → s.heap.get? b = some o → h'.get? b = some o) → Q none { s with heap := h' }) : wpAny (model prog w) A (pyNext (.ref it)) Q E s := by
  obtain ⟨oi, hi, hc, hdi⟩ := id z
  obtain ⟨ot, hot, _, nt, hdt⟩ := ht
  unfold pyNext
  refine wpAny_bind (wpAny_attempt (wpAny_callSpecial?_slot (name := Str.ofString "__next__") z.ty slot_si_next (wpAny_call_entry slot_si_next z.ty entry_si_next ?_ (args_si_next _))))
  unfold Builtin.«set_iterator.__next__»
  refine wpAny_bind (wpAny_of_eq (show slotArgs "__next__" 0 ⟨[.ref it], []⟩ = pure (.ref it, []) from rfl) ?_)
  refine wpAny_bind (wpAny_fieldsOf hi hdi ?_)
  dsimp only [rawInt]
  refine wpAny_bind (wpAny_setEntries_of ho hd hf ?_)
  rw [hn]
  simp only [bne_self_eq_false, Bool.false_eq_true, if_false, Int.toNat_natCast]
  refine wpAny_bind (wpAny_seqItems hot hdt ?_)
  have hp : ((ps.map fun k => rawInt (k : Nat)).toArray)[i]? = none := by
    rw [List.getElem?_toArray, List.getElem?_map, hj]; rfl
  dsimp only
  rw [hp]
  dsimp only
  refine wpAny_bind (wpAny_setField hi hdi (by simp) ?_)
  have h1 := Heap.get?_update_self (Obj.mapFields (·.setIfInBounds 0 (Value.int 0 0))) hi (Obj.isFreed_of_fields (Obj.data_mapFields hdi _))
  have d1 := Obj.data_mapFields hdi (·.setIfInBounds 0 (Value.int 0 0))
  refine wpAny_bind (wpAny_setField h1 d1 (by simp) ?_)
  refine stop_off hh fun h' x => hQ h' fun b o hb e => x b o ?_
  exact (Heap.get?_update_other _ _ (Ne.symm hb)).trans ((Heap.get?_update_other _ _ (Ne.symm hb)).trans e)
/-- what is fixed while it is gone through -/
structure SetFix (h : Heap) (a : Addr) (o : Obj) : Prop where
  at_ : h.get? a = some o
theorem walk_si {A : Around} (hh : A.handled = none) {it : Addr} (hne : a ≠ it) (hd : o.data = .set es ep t) (hf : t.fits es.size = true) (us : List Value) (hu : us.length = es.size) (sl : Nat → Nat)
    (hx : ∀ (i : Nat) (s : Shared) (E' : Value → Shared → Prop) (R : Option (Value × Nat) → Shared → Prop), s.heap.get? a = some o → i ≤ es.size → R ((us[i]?).map fun x => (x, sl (i + 1))) s → wpAny (model prog w) A.in1 (setNext a (sl i) i ep) R E' s) :
    Walks prog w A it [it, a] [it] es.size (fun i v => us[i]? = some v) (fun i h => IsSI h it (rawInt (sl i)) i a es.size ep ∧ SetFix h a o) where
  sub := fun b hb => by simp at hb; simp [hb]
  frame := fun i h h' st hk => ⟨st.1.keep fun o e => hk it (by simp) o e, ⟨hk a (by simp) _ st.2.at_⟩⟩
  item := fun i s Q E hi st hQ => by
    have hl : i < us.length := by omega
    have eu : us[i]? = some us[i] := List.getElem?_eq_getElem hl
    refine si_next st.1 st.2.at_ hd hf rfl (fun E' R q => hx i s E' R st.2.at_ (by omega) (by rw [eu]; exact q)) fun h' z sb => ?_
    refine hQ _ h' s.toks eu ⟨z, ⟨?_⟩⟩ fun b o hb e => ?_
    · rw [sb.2 a hne]; exact st.2.at_
    · rw [sb.2 b fun q => hb (by simp [q])]; exact e
  done := fun s Q E st hQ => by
    have eu : us[es.size]? = none := List.getElem?_eq_none (by omega)
    refine si_end hh st.1 st.2.at_ hd hf rfl (fun E' R q => hx es.size s E' R st.2.at_ (Nat.le_refl _) (by rw [eu]; exact q)) fun h' k => ?_
    exact hQ h' s.toks fun b o hb e => k b o (fun q => hb (by simp [q])) e
  self := fun i s Q E st q => si_self st.1 q
theorem walk_siD {A : Around} (hh : A.handled = none) {it tp : Addr} (hne : a ≠ it) (hnt : tp ≠ it) (hd : o.data = .set es ep t) (hf : t.fits es.size = true) (ps : List Nat) (hp : ps.Perm (List.range es.size)) (us : List Value) (hu : ∀ i : Nat, us[i]? = (ps[i]?).bind fun j => (es[j]?).map (·.2)) :
    Walks prog w A it [it, a, tp] [it] es.size (fun i v => us[i]? = some v) (fun i h => IsSI h it (.ref tp) i a es.size ep ∧ SetFix h a o ∧ h.IsTuple tp (ps.map fun k => rawInt (k : Nat)).toArray) where
  sub := fun b hb => by simp at hb; simp [hb]
  frame := fun i h h' st hk => ⟨st.1.keep fun o e => hk it (by simp) o e, ⟨hk a (by simp) _ st.2.1.at_⟩, by
    obtain ⟨ot, hot, r⟩ := st.2.2
    exact ⟨ot, hk tp (by simp) _ hot, r⟩⟩
  item := fun i s Q E hi st hQ => by
    have hpl : ps.length = es.size := by rw [hp.length_eq, List.length_range]
    have hl : i < ps.length := by omega
    have ep' : ps[i]? = some ps[i] := List.getElem?_eq_getElem hl
    have hj : ps[i] < es.size := List.mem_range.mp (hp.mem_iff.mp (List.getElem_mem hl))
    have ee : es[ps[i]]? = some es[ps[i]] := Array.getElem?_eq_getElem hj
    refine si_nextD st.1 st.2.1.at_ hd hf rfl st.2.2 ep' (kx := es[ps[i]].1) (x := es[ps[i]].2) ee fun h' z sb => ?_
    refine hQ _ h' s.toks (by rw [hu, ep']; show (es[ps[i]]?).map _ = _; rw [ee]; rfl) ⟨z, ⟨?_⟩, ?_⟩ fun b o hb e => ?_
    · rw [sb.2 a hne]; exact st.2.1.at_
    · obtain ⟨ot, hot, r⟩ := st.2.2
      exact ⟨ot, by rw [sb.2 tp hnt]; exact hot, r⟩
    · rw [sb.2 b fun q => hb (by simp [q])]; exact e
  done := fun s Q E st hQ => by
    have hpl : ps.length = es.size := by rw [hp.length_eq, List.length_range]
    refine si_endD hh st.1 st.2.1.at_ hd hf rfl st.2.2 (List.getElem?_eq_none (by omega)) fun h' k => ?_
    exact hQ h' s.toks fun b o hb e => k b o (fun q => hb (by simp [q])) e
  self := fun i s Q E st q => si_self st.1 q
end
end L2

namespace L2
open PySem PySem.Spec PyProof.Rows
section
variable {prog : Program} {w : World} {A : Around} {E : Value → Shared → Prop} {s : Shared} {a : Addr} {o : Obj} {es : Array (Int × Value)} {t : SetTable} {ep : Nat} {S : Int → Bool}
def slP (t : SetTable) : Nat → Nat
  | 0 => 0
  | i + 1 => t.place.getD i 0 + 1
theorem below_slP {t : SetTable} (h : Ris t.place.toList) {i : Nat} (hi : i ≤ t.place.size) : SetTable.below t.place (slP t i) = i := by
  obtain ⟨h1, h2, h3⟩ := below_is (j := slP t i) h
  have lo : ∀ k v, k < i → t.place[k]? = some v → v < slP t i := fun k v hk e => by
    cases i with
    | zero => omega
    | succ i =>
      have hl : i < t.place.size := by omega
      have hv : t.place[i]? = some t.place[i] := Array.getElem?_eq_getElem hl
      have hg : t.place.getD i 0 = t.place[i] := by simp [Array.getD, hl]
      have := h.le (show k ≤ i by omega) e hv
      show v < t.place.getD i 0 + 1
      rw [hg]
      omega
  have hi2 : ∀ k v, i ≤ k → t.place[k]? = some v → slP t i ≤ v := fun k v hk e => by
    cases i with
    | zero => exact Nat.zero_le _
    | succ i =>
      have hl : i < t.place.size := by omega
      have hv : t.place[i]? = some t.place[i] := Array.getElem?_eq_getElem hl
      have hg : t.place.getD i 0 = t.place[i] := by simp [Array.getD, hl]
      have := h.lt (show i < k by omega) hv e
      show t.place.getD i 0 + 1 ≤ v
      rw [hg]
      omega
  rcases Nat.lt_trichotomy (SetTable.below t.place (slP t i)) i with q | q | q
  · have hl : SetTable.below t.place (slP t i) < t.place.size := by omega
    have hv : t.place[SetTable.below t.place (slP t i)]? = some _ := Array.getElem?_eq_getElem hl
    have := lo _ _ q hv
    have := h3 _ _ (Nat.le_refl _) hv
    omega
  · exact q
  · have hl : i < t.place.size := by omega
    have hv : t.place[i]? = some _ := Array.getElem?_eq_getElem hl
    have := hi2 _ _ (Nat.le_refl _) hv
    have := h2 _ _ q hv
    omega
theorem vals_range {es : Array (Int × Value)} : ((List.range es.size).map fun j => ((es[j]?).map (·.2)).getD Value.none) = es.toList.map (·.2) := by
  refine List.ext_getElem (by simp) fun i h1 h2 => ?_
  have hi : i < es.size := by simpa using h1
  rw [List.getElem_map, List.getElem_map, List.getElem_range, Array.getElem?_eq_getElem hi]
  simp
def GoesThrough (prog : Program) (w : World) (I : Addr) (fp : List Addr) (n : Nat) (us : List Value) (St : Nat → Heap → Prop) : Prop := ∀ B : Around, B.handled = none → Walks prog w B I fp [I] n (fun i v => us[i]? = some v) St
theorem set_iter {Q : Value → Shared → Prop} (z : SetAt prog w s.heap a o es ep t S)
    (hQ : ∀ I us fp St h' d, GoesThrough prog w I fp es.size us St → us.Perm (es.toList.map (·.2)) → St 0 h' → (∀ b o, s.heap.get? b = some o → h'.get? b = some o) → (∀ b ∈ fp, b < h'.objs.size) → (I ∈ fp ∧ s.heap.objs.size ≤ I) → (∀ b ∈ fp, b = a ∨ s.heap.objs.size ≤ b) → Q (.ref I) { s with heap := h', drawn := d }) :
    wpAny (model prog w) A (pyIter (.ref a)) Q E s := by
  have hT : s.TypeIs (.ref a) "set" := ⟨o, z.at_, z.ex.1⟩
  have ha : a < s.heap.objs.size := Heap.lt_size z.at_
  have hps : t.place.size = es.size := by
    have := z.fit
    unfold SetTable.fits at this
    simp at this
    exact this.1
  refine wpAny_pyIter_slot hT F.slot_set_iter (wpAny_call_entry F.slot_set_iter hT entry_set_iter ?_ (F.args_set_iter_1 _))
  unfold Builtin.«frozenset.__iter__»
  refine wpAny_bind (wpAny_of_eq (show Builtin.Frozenset.slot0 "__iter__" ⟨[.ref a], []⟩ = pure a from rfl) ?_)
  unfold Builtin.Frozenset.sizeOf
  refine wpAny_bind (wpAny_bind (wpAny_setEntries_of z.at_ z.dat z.fit (wpAny_pure ?_)))
  unfold setDrawn setsByText
  refine wpAny_bind (wpAny_bind (wpAny_setState_of z.at_ z.dat z.fit ?_))
  dsimp only
  refine wpAny_bind (wpAny_bind (wpAny_askSetting (wpAny_pure (wpAny_pure ?_))))
  show wpAny _ _ (if (!byT w && (!t.plain && decide (es.size > 1))) = true then _ else _) _ _ _
  split
  · rename_i hc
    refine wpAny_bind (wp_drawOrder _ _ _ (List.length_range) fun ps d hp => ?_)
    have hpl : ps.length = es.size := by rw [hp.length_eq, List.length_range]
    unfold newTuple
    refine wpAny_bind (wpAny_newObj_type ?_ ?_)
    · refine wpAny_bind (wpAny_setEpoch_of (o := o) (Heap.get?_push_of_some _ z.at_) z.dat z.fit ?_)
      refine wpAny_bind (wpAny_newObj_type (wpAny_pure ?_))
      have hsz1 : (s.heap.push ({ cls := .type "tuple", data := .seq (ps.map fun i => rawInt (i : Nat)).toArray } : Obj)).objs.size = s.heap.objs.size + 1 := Heap.size_push ..
      refine ⟨_, rfl, "set_iterator", _, ⟨_, Heap.get?_push_size _ rfl, rfl⟩, slot_si_next.lookup, ?_⟩
      refine hQ _ (ps.map fun j => ((es[j]?).map (·.2)).getD .none) [_, a, s.heap.objs.size] _ _ d (fun B hB => walk_siD hB (tp := s.heap.objs.size) ?_ ?_ z.dat z.fit ps hp _ fun i => ?_) ?_ ⟨⟨_, Heap.get?_push_size _ rfl, rfl, rfl⟩, ⟨Heap.get?_push_of_some _ (Heap.get?_push_of_some _ z.at_)⟩, ⟨_, Heap.get?_push_of_some _ (Heap.get?_push_size _ rfl), rfl, _, rfl⟩⟩ (fun b o e => Heap.get?_push_of_some _ (Heap.get?_push_of_some _ e)) ?_ ⟨List.mem_cons_self, by rw [hsz1]; exact Nat.le_succ _⟩ ?_
      · rw [hsz1]; exact Nat.ne_of_lt (Nat.lt_succ_of_lt ha)
      · rw [hsz1]; exact Nat.ne_of_lt (Nat.lt_succ_self _)
      · rw [List.getElem?_map]
        cases hpi : ps[i]? with
        | none => rfl
        | some j =>
          have hj : j < es.size := List.mem_range.mp (hp.mem_iff.mp (List.mem_of_getElem? hpi))
          show some (((es[j]?).map (·.2)).getD .none) = (es[j]?).map (·.2)
          rw [Array.getElem?_eq_getElem hj]
          rfl
      · exact (hp.map _).trans (List.Perm.of_eq vals_range)
      · intro b hb
        rw [Heap.size_push, hsz1]
        rcases List.mem_cons.mp hb with rfl | hb
        · rw [hsz1]; exact Nat.lt_succ_self _
        · rcases List.mem_cons.mp hb with rfl | hb
          · exact Nat.lt_succ_of_lt (Nat.lt_succ_of_lt ha)
          · rw [List.mem_singleton] at hb
            subst hb
            exact Nat.lt_succ_of_lt (Nat.lt_succ_self _)
      · intro b hb
        rcases List.mem_cons.mp hb with rfl | hb
        · rw [hsz1]; exact .inr (Nat.le_succ _)
        · rcases List.mem_cons.mp hb with rfl | hb
          · exact .inl rfl
          · rw [List.mem_singleton] at hb
            subst hb
            exact .inr (Nat.le_refl _)
    · show ((ps.map fun i => rawInt (i : Nat)).toArray).size ≤ sizeLine
      rw [List.size_toArray, List.length_map, hpl]
      exact fits_of_scanBound z.sm
  · rename_i hc
    refine wpAny_bind (wpAny_pure (wpAny_bind (wpAny_setEpoch_of z.at_ z.dat z.fit ?_)))
    refine wpAny_bind (wpAny_newObj_type (wpAny_pure ?_))
    refine ⟨_, rfl, "set_iterator", _, ⟨_, Heap.get?_push_size _ rfl, rfl⟩, slot_si_next.lookup, ?_⟩
    have hne : a ≠ s.heap.objs.size := Nat.ne_of_lt ha
    have hfp : ∀ b ∈ [s.heap.objs.size, a], b < (s.heap.push ({ cls := .type "set_iterator", data := .fields #[rawInt 0, rawInt 0, .ref a, rawInt es.size, rawInt ep] } : Obj)).objs.size := fun b hb => by
      rw [Heap.size_push]
      rcases List.mem_cons.mp hb with rfl | hb
      · exact Nat.lt_succ_self _
      · rw [List.mem_singleton] at hb
        subst hb
        exact Nat.lt_succ_of_lt ha
    have hfa : ∀ b ∈ [s.heap.objs.size, a], b = a ∨ s.heap.objs.size ≤ b := fun b hb => by
      rcases List.mem_cons.mp hb with rfl | hb
      · exact .inr (Nat.le_refl _)
      · rw [List.mem_singleton] at hb
        exact .inl hb
    by_cases hb : byT w = true
    · refine hQ _ ((pickOrder (w.params.setOrder a ep) es).toList.map (·.2)) [s.heap.objs.size, a] _ _ s.drawn (fun B hB => walk_si hB hne z.dat z.fit _ ?_ (fun _ => 0) fun i s' E' R ho hi q => ?_) ((pick_perm _ _).map _) ⟨⟨_, Heap.get?_push_size _ rfl, rfl, rfl⟩, ⟨Heap.get?_push_of_some _ z.at_⟩⟩ (fun b o e => Heap.get?_push_of_some _ e) hfp ⟨List.mem_cons_self, Nat.le_refl _⟩ hfa
      · rw [List.length_map, (pick_perm _ _).length_eq, Array.length_toList]
      · refine setNext_text hb ho z.dat z.fit ?_
        rw [List.getElem?_map, Array.getElem?_toList] at q
        cases hpk : (pickOrder (w.params.setOrder a ep) es)[i]? with
        | none => rw [hpk] at q; exact q
        | some e => rw [hpk] at q; exact q
    · have hbf : byT w = false := by
        cases h : byT w with
        | false => rfl
        | true => exact absurd h hb
      have hpl : (!t.plain && decide (es.size > 1)) = false := by
        rw [hbf] at hc
        simpa using hc
      refine hQ _ (es.toList.map (·.2)) [s.heap.objs.size, a] _ _ s.drawn (fun B hB => walk_si hB hne z.dat z.fit _ (by rw [List.length_map, Array.length_toList]) (slP t) fun i s' E' R ho hi q => ?_) .rfl ⟨⟨_, Heap.get?_push_size _ rfl, rfl, rfl⟩, ⟨Heap.get?_push_of_some _ z.at_⟩⟩ (fun b o e => Heap.get?_push_of_some _ e) hfp ⟨List.mem_cons_self, Nat.le_refl _⟩ hfa
      refine setNext_plain hbf hpl (z.tab.1 hbf) ho z.dat z.fit ?_
      rw [below_slP z.tab.2.2 (by omega)]
      rw [List.getElem?_map, Array.getElem?_toList] at q
      by_cases hlt : i < es.size
      · have hlt' : i < t.place.size := by omega
        rw [Array.getElem?_eq_getElem hlt] at q ⊢
        rw [Array.getElem?_eq_getElem hlt']
        have hg : slP t (i + 1) = t.place[i] + 1 := by
          show t.place.getD i 0 + 1 = _
          simp [Array.getD, hlt']
        rw [hg] at q
        exact q
      · rw [Array.getElem?_eq_none (by omega)] at q ⊢
        rw [Array.getElem?_eq_none (by omega)]
        exact q
end
end L2

namespace L2
open PySem PySem.Spec PyProof.Rows
section
variable {prog : Program} {w : World} {A : Around} {E : Value → Shared → Prop} {s : Shared} {a : Addr} {o : Obj} {es : Array (Int × Value)} {t : SetTable} {ep : Nat} {S : Int → Bool}
theorem wp_yes {α : Type} {M : Model} {c : Prop} [Decidable c] {x y : Sem α} {Q : α → Shared → Prop} (hc : c) (h : wpAny M A x Q E s) : wpAny M A (if c then x else y) Q E s := by
  rw [if_pos hc]; exact h
theorem hint_set {Q : Bool → Shared → Prop} (hT : s.TypeIs (.ref a) "set") (h : Q false s) : wpAny (model prog w) A (Builtin.List.listLengthHint (.ref a)) Q E s := by
  have hs : splitId "set.__len__" = some ("set", "__len__") := by kernel_rfl
  unfold Builtin.List.listLengthHint
  refine wpAny_bind (wpAny_specialOf hT F.slot_set_len.lookup ?_)
  dsimp only
  rw [hs]
  dsimp only
  refine wpAny_bind (wpAny_isInstance hT sub_set_self ?_)
  rw [if_neg (show ¬ ((!true) = true) from Bool.false_ne_true)]
  refine wp_yes (by decide +kernel) ?_
  exact wpAny_bind (wpAny_typeOf hT (wpAny_pure h))
theorem collect_set {Q : List Value → Shared → Prop} (hh : A.handled = none) (z : SetAt prog w s.heap a o es ep t S)
    (hQ : ∀ (us : List Value) (s' : Shared), us.Perm (es.toList.map (·.2)) → (∀ b o, s.heap.get? b = some o → s'.heap.get? b = some o) → s'.gens = s.gens → s'.os = s.os → s.heap.objs.size ≤ s'.heap.objs.size → Q us s') : wpAny (model prog w) A (collect (.ref a)) Q E s := by
  have ha : a < s.heap.objs.size := Heap.lt_size z.at_
  unfold collect
  refine wpAny_bind (wpAny_runValue (codeAny_builtin F.entry_proto_collect ?_))
  rw [Around.under_plainId F.plain_proto_collect _]
  show wpAny _ A.in1 (newList [] >>= fun l => again (.builtin "list.__iadd__" ⟨[l, .ref a], []⟩)) _ _ s
  refine wpAny_bind (wpAny_newObj_type ?_)
  refine wpAny_pure ⟨plainId_quiet F.plain_list_iadd _, codeAny_builtin F.entry_list_iadd ?_⟩
  rw [Around.under_plainId F.plain_list_iadd _]
  have z1 : SetAt prog w (s.heap.push { cls := .type "list", data := .seq ([] : List Value).toArray }) a o es ep t S := ⟨Heap.get?_push_of_some _ z.at_, z.ex, z.dat, z.el, z.mem, z.sm, z.fit, z.tab⟩
  have hT : Shared.TypeIs { s with heap := s.heap.push { cls := .type "list", data := .seq ([] : List Value).toArray } } (.ref a) "set" := ⟨o, z1.at_, z.ex.1⟩
  show wpAny _ A.in1 (Builtin.List.listExtendWith (.ref s.heap.objs.size) (.ref a) (.ref s.heap.objs.size)) _ _ _
  unfold Builtin.List.listExtendWith
  refine wpAny_bind (wpAny_typeOf hT ?_)
  have h1 : Builtin.List.listSameRef (.ref s.heap.objs.size) (.ref a) = false := by simp [Builtin.List.listSameRef, Nat.ne_of_gt ha]
  have h2 : (Value.type "set" == Value.type "list") = false := by decide
  have h3 : (Value.type "set" == Value.type "tuple") = false := by decide
  simp only [h1, h2, h3, Bool.or_false, Bool.false_eq_true, if_false]
  refine wpAny_bind (set_iter z1 fun I us fp St h' d W hp st kp hfp hI hle => ?_)
  refine wpAny_bind (wpAny_holding ?_)
  have hT2 : Shared.TypeIs { s with heap := h', drawn := d } (.ref a) "set" := ⟨o, kp _ _ z1.at_, z.ex.1⟩
  refine hint_set hT2 ?_
  have hS : (s.heap.push { cls := .type "list", data := .seq ([] : List Value).toArray }).get? s.heap.objs.size = some { cls := .type "list", data := .seq ([] : List Value).toArray } := Heap.get?_push_size _ rfl
  have hS1 := kp _ _ hS
  have hsz : (s.heap.push { cls := .type "list", data := .seq ([] : List Value).toArray } : Heap).objs.size = s.heap.objs.size + 1 := Heap.size_push ..
  split
  · refine wpAny_bind (wpAny_rule ?_)
    refine wpAny_bind ?_
    show wpAny _ A.in1 (updateSeq s.heap.objs.size (·.push .none) >>= fun _ => updateSeq s.heap.objs.size (·.pop)) _ _ _
    refine wpAny_bind (wpAny_updateSeq hS1 rfl ?_)
    have hS2 := Heap.get?_update_self (Obj.mapSeq (·.push Value.none)) hS1 rfl
    refine wpAny_updateSeq hS2 rfl ?_
    have hS3 := Heap.get?_update_self (Obj.mapSeq (·.pop)) hS2 rfl
    have oth : ∀ b o, b ≠ s.heap.objs.size → h'.get? b = some o → ((h'.update s.heap.objs.size (Obj.mapSeq (·.push Value.none))).update s.heap.objs.size (Obj.mapSeq (·.pop))).get? b = some o := fun b o hb e =>
      (Heap.get?_update_other _ _ (Ne.symm hb)).trans ((Heap.get?_update_other _ _ (Ne.symm hb)).trans e)
    have hSf : s.heap.objs.size ∉ fp := fun hm => by
      rcases hle _ hm with e | e
      · exact absurd e (Nat.ne_of_gt ha)
      · rw [hsz] at e
        exact absurd e (Nat.not_succ_le_self _)
    have hi1 : A.in1.handled = none := hh
    have W1 := W A.in1 hi1
    refine wpAny_pure ⟨plainId_quiet F.plain_extend_loop _, codeAny_extend_loopS W1.toS (fits_of_scanBound z.sm) _ hSf _ es.size 0 _ _ _ rfl (Nat.zero_le _) (W1.frame 0 h' _ st fun b hb o e => oth b o (fun q => hSf (q ▸ hb)) e) hS3 (ItemsOf.nil _) fun s' acc c hm hS' hacc => ?_⟩
    show wpAny _ A (load s.heap.objs.size >>= _) _ _ s'
    refine wpAny_bind (wpAny_load hS' (wpAny_pure ?_))
    have hus : us.length = es.size := by rw [hp.length_eq, List.length_map, Array.length_toList]
    have hacc' : acc.toList = us := by
      refine List.ext_getElem? fun i => ?_
      rw [Array.getElem?_toList]
      by_cases hi : i < acc.size
      · rw [Array.getElem?_eq_getElem hi]
        exact (hacc.2 i _ (Array.getElem?_eq_getElem hi)).symm
      · rw [Array.getElem?_eq_none (by omega), List.getElem?_eq_none (by rw [hus, ← hacc.1]; omega)]
    refine hQ acc.toList s' (hacc' ▸ hp) (fun b o e => ?_) hm.gens hm.os (Nat.le_of_lt (Heap.lt_size hS'))
    have hb : b < s.heap.objs.size := Heap.lt_size e
    refine hm.heap b o ?_ (oth b o (Nat.ne_of_lt hb) (kp b o (Heap.get?_push_of_some _ e)))
    intro hq
    rcases List.mem_cons.mp hq with q | q
    · exact absurd q (Nat.ne_of_lt hb)
    · rw [List.mem_singleton] at q
      subst q
      have e2 := hI.2
      rw [hsz] at e2
      exact absurd (Nat.lt_of_lt_of_le (Nat.lt_succ_of_lt hb) e2) (Nat.lt_irrefl _)
  · rename_i hc
    exact absurd (by decide +kernel) hc
end
end L2

namespace L2
open PySem PySem.Spec PyProof.Rows
theorem met_nodup (val : Nat → Int) : ∀ i, (firstMet val i).Nodup
  | 0 => List.nodup_nil
  | i + 1 => by
    rw [firstMet_succ]
    unfold step_dedup
    split
    · exact met_nodup val i
    · rename_i hc
      refine List.nodup_append.mpr ⟨met_nodup val i, List.pairwise_singleton _ _, fun a ha b hb => ?_⟩
      rw [List.mem_singleton] at hb
      subst hb
      exact fun e => hc (List.any_eq_true.mpr ⟨a, ha, by rw [e]; simp⟩)
theorem perm_of_sub : ∀ {σ ks : List Int}, σ.Nodup → (∀ k ∈ σ, k ∈ ks) → ks.length ≤ σ.length → σ.Perm ks
  | [], ks, _, _, hl => by
    have e : ks = [] := List.length_eq_zero_iff.mp (Nat.le_zero.mp hl)
    subst e
    exact .rfl
  | x :: σ, ks, hn, hs, hl => by
    obtain ⟨h1, h2⟩ := List.nodup_cons.mp hn
    have hx := hs x List.mem_cons_self
    have hc := List.perm_cons_erase hx
    refine List.Perm.trans (List.Perm.cons x (perm_of_sub h2 (fun k hk => ?_) ?_)) hc.symm
    · exact (List.mem_erase_of_ne (fun e : k = x => h1 (e ▸ hk))).mpr (hs k (List.mem_cons_of_mem _ hk))
    · have := hc.length_eq
      rw [List.length_cons] at this hl
      omega
theorem ints_of : ∀ (us : List Value), (∀ u ∈ us, ∃ k, Value.isInt k u = true) → ∃ ks, IntsAre us ks ∧ ∀ k, k ∈ ks ↔ ∃ u ∈ us, Value.isInt k u = true
  | [], _ => ⟨[], .nil, fun k => by simp⟩
  | u :: us, h => by
    obtain ⟨k, hk⟩ := h u List.mem_cons_self
    obtain ⟨t, rfl⟩ := Value.isInt_shape hk
    obtain ⟨ks, h1, h2⟩ := ints_of us fun v hv => h v (List.mem_cons_of_mem _ hv)
    refine ⟨k :: ks, .cons k t h1, fun j => ?_⟩
    rw [List.mem_cons, h2]
    constructor
    · rintro (rfl | ⟨v, hv, q⟩)
      · exact ⟨_, List.mem_cons_self, hk⟩
      · exact ⟨v, List.mem_cons_of_mem _ hv, q⟩
    · rintro ⟨v, hv, q⟩
      rcases List.mem_cons.mp hv with rfl | hv
      · exact .inl (Value.isInt_inj _ _ _ q hk)
      · exact .inr ⟨v, hv, q⟩
section
variable {prog : Program} {w : World} {A : Around} {E : Value → Shared → Prop} {s : Shared} {a : Addr}
theorem sorted_set {σ : List Int} {Q : Value → Shared → Prop} (hh : A.handled = none) (z : SetT prog w s.heap a (fun k => σ.any (· == k)) σ.length) (hσ : σ.Nodup) (h64 : σ.length < 64)
    (h : ∀ (D : Addr) (vs : List Value) (ms : List Int) (c : Nat) (s' : Shared), IntsAre vs ms → ms.length = σ.length → ms.Pairwise (· < ·) → (∀ k, k ∈ ms ↔ k ∈ σ) → (∀ b o, s.heap.get? b = some o → s'.heap.get? b = some o) → s.heap.objs.size ≤ D →
      s'.heap.get? D = some (seqObj "list" vs.toArray c) → s'.gens = s.gens → s'.os = s.os → Q (.ref D) s') : wpAny (model prog w) A (call (.builtin "sorted") [.ref a]) Q E s := by
  obtain ⟨o, es, ep, t, z, hn⟩ := z
  refine Calls.call_function_entry kind_sorted plain_sorted entry_sorted (args_sorted1 _) ?_
  unfold Builtin.«sorted»
  refine wpAny_bind (m := checkCount "sorted" 1 1 _) (wpAny_pure ?_)
  have hi1 : A.in1.handled = none := hh
  refine wpAny_bind (collect_set hi1 z fun us s1 hp kp hg ho hsz => ?_)
  have hul : us.length = es.size := by rw [hp.length_eq, List.length_map, Array.length_toList]
  obtain ⟨ks, hI, hmem⟩ := ints_of us fun u hu => by
    obtain ⟨e, he, rfl⟩ := List.mem_map.mp (hp.mem_iff.mp hu)
    obtain ⟨⟨k, hk, _⟩, _⟩ := z.el e he
    exact ⟨k, hk⟩
  have hkl : ks.length = σ.length := by rw [← hI.length, hul, hn]
  have hks : ∀ k, k ∈ ks ↔ k ∈ σ := fun k => by
    rw [hmem]
    have hz := z.mem k
    rw [List.any_eq_true] at hz
    constructor
    · rintro ⟨u, hu, q⟩
      obtain ⟨e, he, rfl⟩ := List.mem_map.mp (hp.mem_iff.mp hu)
      obtain ⟨x, hx, e2⟩ := hz.mpr ⟨e, he, q⟩
      have : x = k := by simpa using e2
      exact this ▸ hx
    · intro hk
      obtain ⟨e, he, q⟩ := hz.mp ⟨k, hk, by simp⟩
      exact ⟨e.2, hp.mem_iff.mpr (List.mem_map.mpr ⟨e, he, rfl⟩), q⟩
  have hperm : σ.Perm ks := perm_of_sub hσ (fun k hk => (hks k).mpr hk) (by omega)
  refine wpAny_bind (wpAny_newList ?_)
  have hoL : (s1.heap.push (seqObj "list" us.toArray 0)).get? s1.heap.objs.size = some (seqObj "list" us.toArray 0) := Heap.get?_push_size _ rfl
  refine wpAny_bind (wpAny_holding (wpAny_call_entry slot_list_sort ⟨_, hoL, rfl⟩ entry_list_sort (list_sort_tree hoL hI (by omega) fun out ms a1 a2 a3 => ⟨_, rfl, ?_⟩) (args_list_sort _)))
  obtain ⟨c, hc⟩ := sortedHeap_at (out := out) hoL
  refine wpAny_pure ⟨_, rfl, h s1.heap.objs.size out.toList ms c _ a1 (by rw [a2.length_eq, hkl]) ?_ (fun k => a2.mem_iff.trans (hks k)) (fun b ob e => ?_) ?_ hc hg ho⟩
  · have hnd : ms.Nodup := (a2.trans hperm.symm).nodup_iff.mpr hσ
    exact (a3.and hnd).imp fun ⟨x, y⟩ => by omega
  · have e1 := kp b ob e
    have hb : b < s1.heap.objs.size := Heap.lt_size e1
    show (sortedHeap _ _ _ _).get? b = _
    rw [sortedHeap_old (Nat.ne_of_lt hb) (by rw [size_push']; exact Nat.lt_succ_of_lt hb)]
    exact Heap.get?_push_of_some _ e1
  · exact hsz
end
section
variable {X : Cx} {e : Expr} {te : TE} {p1 p2 pos1 pos2 : Pos}
def tSortSet (K : PySem.W.Frag) (te : TE) : TE := fun σ H Q => te σ H fun x H1 => ∃ (a : Addr) (ns : List Int), x = .ref a ∧ SqL K H1 a (ns.map V.int) ∧ ns.length < 64 ∧
  ∀ (l : Addr) (ms : List Int), H1 l = none → ms.Pairwise (· < ·) → (∀ k, k ∈ ms ↔ k ∈ ns) → Q (.ref l) (upd H1 l (.lst (ms.map V.int)))
theorem ints_vals : ∀ {vs : List Value} {ms : List Int}, IntsAre vs ms → Vals (ms.map V.int) vs
  | _, _, .nil => .nil
  | _, _, .cons n t h => .cons ⟨t, rfl⟩ (ints_vals h)
theorem ints_back : ∀ {ms : List Int} {vs : List Value}, Vals (ms.map V.int) vs → IntsAre vs ms
  | [], _, h => by cases h; exact .nil
  | m :: ms, _, h => by
    cases h with
    | cons a b =>
      obtain ⟨t, rfl⟩ := a
      exact .cons m t (ints_back b)
theorem Inv.draw {pins : List (Addr × Obj)} {σ : St} {H : Hp} {s : Shared} {d : Drawn} (J : Inv X pins σ H s) : Inv X pins σ H { s with drawn := d } :=
  ⟨J.ok, J.os, J.bare, J.base, J.loc, J.cell, J.free, J.freeC, J.pin, J.hok, J.len⟩
theorem pe_sortset (hc : X.calm = true) (hg1 : Gl X "sorted") (hm1 : X.mg "sorted" = none) (hv1 : bootBuiltins "sorted" = some (.builtin "sorted")) (hg2 : Gl X "set") (hm2 : X.mg "set" = none) (hv2 : bootBuiltins "set" = some (.type "set")) (he : PE X e te)
    (hs : starEach [e] X.env = [(false, eval e X.env)] := by rfl) (hs2 : starEach [Expr.Call (.Name "set" p2) [e] [] pos2] X.env = [(false, eval (Expr.Call (.Name "set" p2) [e] [] pos2) X.env)] := by rfl) :
    PE X (.Call (.Name "sorted" p1) [.Call (.Name "set" p2) [e] [] pos2] [] pos1) (tSortSet X.K te) := by
  intro pins s σ H Q I h
  have hA : X.A.handled = none := I.ok.hd hc
  refine wpAny_Call_Name_kw (ld_blt I hg1 hm1 hv1 ?_ (by decide) (by decide))
  refine PyProof.Rows.callWith_builtin1 ?_ hs2 rfl
  rw [hs2]
  refine Calls.spliced_cons ?_
  refine wpAny_Call_Name_kw (ld_blt I hg2 hm2 hv2 ?_ (by decide) (by decide))
  refine PyProof.Rows.callWith_type1 ?_ hs rfl
  rw [hs]
  refine Calls.spliced_cons (thn (he pins s σ H _ I h) fun u s1 ⟨x, H1, I1, r1, a, ns, ex, hS, hn, q⟩ => ?_)
  subst ex
  cases r1
  refine Calls.spliced_nil ?_
  obtain ⟨its, rv, pl, hz⟩ := I1.list hS
  have hI : IntsAre its ns := ints_back rv
  have hlen : its.length = ns.length := hI.length
  have hI' : IntsAre its.toArray.toList ns := by rw [List.toList_toArray]; exact hI
  refine set_of_list hA pl.isList hI' (by rw [List.size_toArray, hlen]; show _ < 4096; omega) fun h2 tk z k2 => ?_
  refine Calls.spliced_nil ?_
  have hmem : ∀ k, k ∈ firstMet (fun i => ns.getD i 0) its.toArray.size ↔ k ∈ ns := fun k => by
    have ha := firstMet_any (fun i => ns.getD i 0) its.toArray.size k
    have e1 : ((List.range its.toArray.size).map fun i => ns.getD i 0) = ns := by
      rw [List.size_toArray, hlen]
      refine List.ext_getElem (by simp) fun i h1 h2 => ?_
      rw [List.getElem_map, List.getElem_range]
      simp [h2]
    rw [e1] at ha
    have hb : ∀ l : List Int, (l.any (· == k)) = true ↔ k ∈ l := fun l => by simp
    rw [← hb, ← hb ns, ha]
  refine sorted_set (s := { s1 with heap := h2, toks := tk }) hA z (met_nodup _ _) ?_ fun D vs ms c s3 hv hl3 hp hm kp hD hget hgn hos => ?_
  · have := firstMet_length_le (fun i => ns.getD i 0) its.toArray.size
    rw [List.size_toArray] at this
    rw [List.size_toArray]
    omega
  obtain ⟨h3, g3, d3, tk3, os3⟩ := s3
  dsimp only at kp hget hgn hos
  subst hgn hos
  have kk : ∀ b o, s1.heap.get? b = some o → h3.get? b = some o := fun b o e => kp b o (k2 b o (Heap.lt_size e) e)
  have hD1 : s1.heap.objs.size ≤ D := by
    obtain ⟨o, es, ep, t, zz, _⟩ := z
    have := Heap.lt_size zz.at_
    exact Nat.le_trans (Nat.le_of_lt this) hD
  have hz2 : (ms.map V.int).length ≤ sizeLine := by
    have := firstMet_length_le (fun i => ns.getD i 0) its.toArray.size
    rw [List.size_toArray] at this hl3
    rw [List.length_map, hl3]
    exact Nat.le_of_lt (small1000 (by omega))
  have J := I1.laid (a := D) (o := .lst (ms.map V.int)) (t' := tk3) kk hD1 (show ObjOk X.prog X.w _ h3 D (.lst (ms.map V.int)) from ⟨hz2, vs, c, ints_vals hv, hget⟩)
  exact ⟨.ref D, _, J.draw, rfl, q D ms (I1.hok.fresh hD1) hp fun k => (hm k).trans (hmem k)⟩
end
end L2

namespace L2
open PySem PySem.Spec PyProof.Rows
section
variable {X : Cx}
def Ite (K : PySem.W.Frag) (a : Addr) : It :=
  ⟨fun i H => ∃ xs x, SqL K H a xs ∧ xs[i]? = some x, fun i H y H' => ∃ t x, y = .ref t ∧ H t = none ∧ H' = upd H t (.tup [.int (i : Nat), x]) ∧ ∀ xs, SqL K H a xs → xs[i]? = some x, fun i H => ∃ xs, SqL K H a xs ∧ xs.length ≤ i⟩
def iEnum (K : PySem.W.Frag) (te : TE) : TI := fun σ H R => te σ H fun x H1 => ∃ a, x = .ref a ∧ (∃ xs, SqL K H1 a xs) ∧ R (Ite K a) H1
def Itz (K : PySem.W.Frag) (a b : Addr) : It :=
  ⟨fun i H => ∃ xs ys x y, SqL K H a xs ∧ SqL K H b ys ∧ xs[i]? = some x ∧ ys[i]? = some y, fun i H v H' => ∃ t x y, v = .ref t ∧ H t = none ∧ H' = upd H t (.tup [x, y]) ∧ (∀ xs, SqL K H a xs → xs[i]? = some x) ∧ ∀ ys, SqL K H b ys → ys[i]? = some y,
    fun i H => ∃ xs ys, SqL K H a xs ∧ SqL K H b ys ∧ (xs.length ≤ i ∨ ys.length ≤ i)⟩
def iZip (K : PySem.W.Frag) (ta tb : TE) : TI := fun σ H R => ta σ H fun x H1 => tb σ H1 fun y H2 => ∃ a b, x = .ref a ∧ y = .ref b ∧ (∃ xs, SqL K H2 a xs) ∧ (∃ ys, SqL K H2 b ys) ∧ R (Itz K a b) H2
end
end L2
namespace L2
open PySem PySem.Spec PyProof.Rows
end L2

namespace L2
open PySem PySem.Spec PyProof.Rows
section
variable {X : Cx}
def rIndex (K : PySem.W.Frag) : V → List V → Hp → VK → Prop := fun x vs H Q => ∃ (l : Addr) (ns : List Int) (k : Int), x = .ref l ∧ vs = [.int k] ∧ SqL K H l (ns.map V.int) ∧ k ∈ ns ∧ Q (.int (ns.idxOf k : Nat)) H
end
def Keeps (p : Addr) (H H' : Hp) : Prop := ∀ b o, b ≠ p → H b = some o → H' b = some o
theorem Keeps.of {p : Addr} {H H' : Hp} (s : Same H H') : Keeps p H H' := fun b o _ e => s b o e
theorem Keeps.trans {p : Addr} {H H1 H2 : Hp} (a : Keeps p H H1) (b : Keeps p H1 H2) : Keeps p H H2 := fun c o n e => b c o n (a c o n e)
theorem Keeps.put {p : Addr} {H H' : Hp} {o : HO} (s : Keeps p H H') : Keeps p H (upd H' p o) := fun b u n e => by rw [upd_ne n]; exact s b u n e
theorem Keeps.same {p : Addr} {H H' : Hp} (s : Keeps p H H') (h : H p = none) : Same H H' := fun b o e => s b o (fun z => by rw [z, h] at e; cases e) e
theorem Rd.keep {p a : Addr} {H H' : Hp} {u : HO} (s : Keeps p H H') (n : a ≠ p) (h : Rd H a u) : Rd H' a u := by
  rcases h with h | ⟨o, h⟩
  · exact .inl (s _ _ n h)
  · exact .inr ⟨o, s _ _ n h⟩
theorem SqL.keep {K : PySem.W.Frag} {p a : Addr} {H H' : Hp} {xs : List V} (s : Keeps p H H') (n : a ≠ p) (h : SqL K H a xs) : SqL K H' a xs := by
  rcases h with h | h
  · exact .inl (h.keep s n)
  · exact .inr h
theorem SqT.keep {K : PySem.W.Frag} {p a : Addr} {H H' : Hp} {xs ys : List V} (s : Keeps p H H') (hp : H p = some (.lst ys)) (h : SqT K H a xs) : SqT K H' a xs := by
  rcases h with h | h
  · refine .inl (h.keep s fun z => ?_)
    subst z
    rcases h with h | ⟨o, h⟩
    · rw [hp] at h; cases h
    · rw [hp] at h; cases h
  · exact .inr h
theorem Tups.keep {K : PySem.W.Frag} {p : Addr} {H H' : Hp} {as : List Addr} {ls : List Ld} {ys : List V} (s : Keeps p H H') (hp : H p = some (.lst ys)) (h : Tups K H as ls) : Tups K H' as ls := ⟨h.1, fun i a x e1 e2 => (h.2 i a x e1 e2).keep s hp⟩
theorem LoadsAt.keep {K : PySem.W.Frag} {p l : Addr} {H H' : Hp} {ls : List Ld} {ys : List V} (s : Keeps p H H') (hp : H p = some (.lst ys)) (n : l ≠ p) (h : LoadsAt K H l ls) : LoadsAt K H' l ls := by
  obtain ⟨as, a, b⟩ := h
  exact ⟨as, a.keep s n, b.keep s hp⟩
theorem Rd.keepI {p a C dx : Addr} {H H' : Hp} {fs : List (Str × V)} {u : HO} (s : Keeps p H H') (hp : H p = some (.ins C dx fs)) (hu : ∀ C dx fs, u ≠ .ins C dx fs) (h : Rd H a u) : Rd H' a u := by
  refine h.keep s fun z => ?_
  subst z
  rcases h with h | ⟨o, h⟩
  · rw [hp] at h; cases h; exact hu _ _ _ rfl
  · rw [hp] at h; cases h
theorem SqL.keepI {K : PySem.W.Frag} {p a C dx : Addr} {H H' : Hp} {xs : List V} {fs : List (Str × V)} (s : Keeps p H H') (hp : H p = some (.ins C dx fs)) (h : SqL K H a xs) : SqL K H' a xs := by
  rcases h with h | h
  · exact .inl (h.keepI s hp fun _ _ _ z => HO.noConfusion z)
  · exact .inr h
theorem SqT.keepI {K : PySem.W.Frag} {p a C dx : Addr} {H H' : Hp} {xs : List V} {fs : List (Str × V)} (s : Keeps p H H') (hp : H p = some (.ins C dx fs)) (h : SqT K H a xs) : SqT K H' a xs := by
  rcases h with h | h
  · exact .inl (h.keepI s hp fun _ _ _ z => HO.noConfusion z)
  · exact .inr h
theorem LoadsAt.keepI {K : PySem.W.Frag} {p l C dx : Addr} {H H' : Hp} {ls : List Ld} {fs : List (Str × V)} (s : Keeps p H H') (hp : H p = some (.ins C dx fs)) (h : LoadsAt K H l ls) : LoadsAt K H' l ls := by
  obtain ⟨as, a, b⟩ := h
  exact ⟨as, a.keepI s hp, b.1, fun i a x e1 e2 => (b.2 i a x e1 e2).keepI s hp⟩
/-- a yard: its object, its list of kinds, its list of spots -/
structure YardAt (C : Addr) (H : Hp) (y kn wh : Addr) (ks : List Str) (ws : List Int) (m : Int) : Prop where
  ob : ∃ dx, H y = some (.ins C dx [("kinds", .ref kn), ("where", .ref wh), ("many", .int m)])
  okn : H kn = some (.lst (ks.map V.str))
  owh : H wh = some (.lst (ws.map V.int))
theorem YardAt.same {C : Addr} {H H' : Hp} {y kn wh : Addr} {ks : List Str} {ws : List Int} {m : Int} (h : YardAt C H y kn wh ks ws m) (s : Same H H') : YardAt C H' y kn wh ks ws m := by
  obtain ⟨⟨dx, a⟩, b, c⟩ := h
  exact ⟨⟨dx, s _ _ a⟩, s _ _ b, s _ _ c⟩
theorem YardAt.put {C : Addr} {H H' : Hp} {y kn wh : Addr} {ks : List Str} {ws ws' : List Int} {m : Int} (h : YardAt C H y kn wh ks ws m) (s : Keeps wh H H') (n1 : kn ≠ wh) (e : H' wh = some (.lst (ws'.map V.int))) : YardAt C H' y kn wh ks ws' m := by
  obtain ⟨⟨dx, a⟩, b, c⟩ := h
  exact ⟨⟨dx, s _ _ (fun z => by rw [z, c] at a; cases a) a⟩, s _ _ n1 b, e⟩
theorem flat_intL (ds : List Int) : (ds.map V.int).all flatV = true := by
  rw [List.all_map]
  exact List.all_eq_true.mpr fun _ _ => rfl
end L2

namespace L2
open PySem PySem.Spec PyProof.Rows
section
variable {X : Cx}
end
end L2
namespace L2
open PySem PySem.Spec PyProof.Rows
/-- a def whose promise speaks of no exception lets none out -/
theorem FnOk.calm {P : Program} {w : World} {K : PySem.W.Frag} {mg : Str → Option Value} {base : Heap} {k : Nat} {f : Addr} {fd : FuncData} {ps : List Str} {sp : Sp} (F : FnOk P w K mg base (CXf P w) k f fd ps sp)
    (h : ∀ vs H Q E, sp vs H Q E → sp vs H Q E0) : FnOk P w K mg base CX0 k f fd ps sp := by
  refine ⟨F.len, fun A outer s H args us vs Q E hr he hb hv hs => ?_⟩
  refine codeAny_mono (F.run A outer s H args us vs Q E0 hr he hb hv (h _ _ _ _ hs)) fun r s' q => ?_
  cases r with
  | ok fl => cases fl <;> exact q
  | error e =>
    obtain ⟨x, cls, a0, H', B, _, _, _, _, _, _, _, _, _, z⟩ := q
    exact z.elim
end L2

namespace L2
open PySem PySem.Spec PyProof.Rows
/-! ### lists of tuples, of any rows -/
def TupsF {α : Type} (f : α → List V) (K : PySem.W.Frag) (H : Hp) (as : List Addr) (ls : List α) : Prop := as.length = ls.length ∧ ∀ (i : Nat) a x, as[i]? = some a → ls[i]? = some x → SqT K H a (f x)
def RowsAt {α : Type} (f : α → List V) (K : PySem.W.Frag) (H : Hp) (l : Addr) (ls : List α) : Prop := ∃ as : List Addr, SqL K H l (as.map V.ref) ∧ TupsF f K H as ls
section
variable {α : Type} {f : α → List V} {K : PySem.W.Frag} {H H' : Hp} {as bs : List Addr} {ls ks : List α} {l p : Addr}
theorem TupsF.same (s : Same H H') (h : TupsF f K H as ls) : TupsF f K H' as ls := ⟨h.1, fun i a x e1 e2 => s.tup (h.2 i a x e1 e2)⟩
theorem RowsAt.same (s : Same H H') (h : RowsAt f K H l ls) : RowsAt f K H' l ls := by
  obtain ⟨as, a, b⟩ := h
  exact ⟨as, s.seq a, b.same s⟩
theorem TupsF.nil : TupsF f K H [] [] := ⟨rfl, fun i a x e _ => by simp at e⟩
theorem TupsF.app (h : TupsF f K H as ls) (g : TupsF f K H bs ks) : TupsF f K H (as ++ bs) (ls ++ ks) := by
  refine ⟨by rw [List.length_append, List.length_append, h.1, g.1], fun i a x e1 e2 => ?_⟩
  by_cases hi : i < as.length
  · rw [List.getElem?_append_left hi] at e1
    rw [List.getElem?_append_left (by rw [← h.1]; exact hi)] at e2
    exact h.2 i a x e1 e2
  · rw [List.getElem?_append_right (by omega)] at e1
    rw [List.getElem?_append_right (by rw [← h.1]; omega), ← h.1] at e2
    exact g.2 _ a x e1 e2
theorem TupsF.one {a : Addr} {x : α} (h : SqT K H a (f x)) : TupsF f K H [a] [x] := by
  refine ⟨rfl, fun i b y e1 e2 => ?_⟩
  cases i with
  | zero => cases e1; cases e2; exact h
  | succ i => simp at e1
theorem TupsF.take (h : TupsF f K H as ls) (n : Nat) : TupsF f K H (as.take n) (ls.take n) := by
  refine ⟨by rw [List.length_take, List.length_take, h.1], fun i a x e1 e2 => ?_⟩
  rw [List.getElem?_take] at e1 e2
  split at e1
  · rename_i hi
    rw [if_pos hi] at e2
    exact h.2 i a x e1 e2
  · cases e1
theorem TupsF.drop (h : TupsF f K H as ls) (n : Nat) : TupsF f K H (as.drop n) (ls.drop n) := by
  refine ⟨by rw [List.length_drop, List.length_drop, h.1], fun i a x e1 e2 => ?_⟩
  rw [List.getElem?_drop] at e1 e2
  exact h.2 _ a x e1 e2
theorem TupsF.rew {ys : List V} {o : HO} (h : TupsF f K H as ls) (hl : H l = some (.lst ys)) : TupsF f K (upd H l o) as ls := ⟨h.1, fun i a x e1 e2 => (h.2 i a x e1 e2).rew hl⟩
theorem TupsF.keep {ys : List V} (s : Keeps p H H') (hp : H p = some (.lst ys)) (h : TupsF f K H as ls) : TupsF f K H' as ls := ⟨h.1, fun i a x e1 e2 => (h.2 i a x e1 e2).keep s hp⟩
theorem TupsF.keepI {C dx : Addr} {fs : List (Str × V)} (s : Keeps p H H') (hp : H p = some (.ins C dx fs)) (h : TupsF f K H as ls) : TupsF f K H' as ls := ⟨h.1, fun i a x e1 e2 => (h.2 i a x e1 e2).keepI s hp⟩
theorem RowsAt.keepI {C dx : Addr} {fs : List (Str × V)} (s : Keeps p H H') (hp : H p = some (.ins C dx fs)) (h : RowsAt f K H l ls) : RowsAt f K H' l ls := by
  obtain ⟨as, a, b⟩ := h
  exact ⟨as, a.keepI s hp, b.keepI s hp⟩
theorem RowsAt.keep {ys : List V} (s : Keeps p H H') (hp : H p = some (.lst ys)) (n : l ≠ p) (h : RowsAt f K H l ls) : RowsAt f K H' l ls := by
  obtain ⟨as, a, b⟩ := h
  exact ⟨as, a.keep s n, b.keep s hp⟩
theorem RowsAt.row (h : RowsAt f K H l ls) {i : Nat} {x : α} (e : ls[i]? = some x) : ∃ (as : List Addr) (a : Addr), SqL K H l (as.map V.ref) ∧ (as.map V.ref)[i]? = some (.ref a) ∧ SqT K H a (f x) := by
  obtain ⟨as, a, b⟩ := h
  have hi : i < as.length := by rw [b.1]; exact (List.getElem?_eq_some_iff.mp e).1
  refine ⟨as, as[i], a, ?_, b.2 i _ _ (List.getElem?_eq_getElem hi) e⟩
  rw [List.getElem?_map, List.getElem?_eq_getElem hi]; rfl
end
/-! ### codes -/
abbrev Cd := Int × Int
def cdV (x : Cd) : List V := [.int x.1, .int x.2]
end L2

namespace L2
open PySem PySem.Spec PyProof.Rows PySem.SeqAt
section
variable {X : Cx}
/-- KINDS.index(kind): a tuple of two -/
def rIndexT (K : PySem.W.Frag) : V → List V → Hp → VK → Prop := fun x vs H Q => ∃ (l : Addr) (a b k : V), x = .ref l ∧ vs = [k] ∧ SqT K H l [a, b] ∧ flatV a = true ∧ flatV b = true ∧ flatV k = true ∧ (eqV a k || eqV b k) = true ∧ Q (.int (if eqV a k = true then 0 else 1)) H
/-- != of two tuples of plain values -/
def rNeT (K : PySem.W.Frag) : R2 := fun x y H Q => ∃ a b xs ys, x = .ref a ∧ y = .ref b ∧ SqT K H a xs ∧ SqT K H b ys ∧ xs.all flatV = true ∧ ys.all flatV = true ∧ Q (.bl (!eqL xs ys)) H
end
end L2

namespace L2
open PySem PySem.Spec PyProof.Rows
/-! ### bells -/
inductive Eng where
  | no | wait (l r : Int) | armed (l r : Int) | other (l r s : Int) | used (l r : Int)
  deriving DecidableEq
def engV : Eng → List V
  | .no => [.str "not rung", .non, .non, .non]
  | .wait l r => [.str "not repeated", .int l, .int r, .non]
  | .armed l r => [.str "armed", .int l, .int r, .int r]
  | .other l r s => [.str "repeated otherwise", .int l, .int r, .int s]
  | .used l r => [.str "used up", .int l, .int r, .int r]
def Keeps2 (p q : Addr) (H H' : Hp) : Prop := ∀ b o, b ≠ p → b ≠ q → H b = some o → H' b = some o
theorem Keeps2.of {p q : Addr} {H H' : Hp} (s : Same H H') : Keeps2 p q H H' := fun b o _ _ e => s b o e
theorem Keeps2.l {p q : Addr} {H H' : Hp} (s : Keeps p H H') : Keeps2 p q H H' := fun b o n _ e => s b o n e
theorem Keeps2.r {p q : Addr} {H H' : Hp} (s : Keeps q H H') : Keeps2 p q H H' := fun b o _ n e => s b o n e
theorem Keeps2.trans {p q : Addr} {H H1 H2 : Hp} (a : Keeps2 p q H H1) (b : Keeps2 p q H1 H2) : Keeps2 p q H H2 := fun c o n m e => b c o n m (a c o n m e)
theorem Keeps2.same {p q : Addr} {H H1 H2 : Hp} (s : Same H H1) (k : Keeps2 p q H1 H2) (hp : H p = none) (hq : H q = none) : Same H H2 := fun b o e => k b o (ne_of_none e hp) (ne_of_none e hq) (s b o e)
theorem Keeps.free {p x : Addr} {H H' : Hp} (k : Keeps p H H') (n : x ≠ p) (h : H' x = none) : H x = none := by
  cases e : H x with
  | none => rfl
  | some o => have := k x o n e; rw [h] at this; cases this
theorem Keeps2.free {p q x : Addr} {H H' : Hp} (k : Keeps2 p q H H') (n : x ≠ p) (m : x ≠ q) (h : H' x = none) : H x = none := by
  cases e : H x with
  | none => rfl
  | some o => have := k x o n m e; rw [h] at this; cases this
def RowsH {α : Type} (f : α → List V) (K : PySem.W.Frag) (H : Hp) (l : Addr) (ls : List α) : Prop := ∃ as : List Addr, H l = some (.lst (as.map V.ref)) ∧ TupsF f K H as ls
theorem RowsH.same {α : Type} {f : α → List V} {K : PySem.W.Frag} {H H' : Hp} {l : Addr} {ls : List α} (s : Same H H') (h : RowsH f K H l ls) : RowsH f K H' l ls := by
  obtain ⟨as, a, t⟩ := h
  exact ⟨as, s _ _ a, t.same s⟩
theorem RowsH.rows {α : Type} {f : α → List V} {K : PySem.W.Frag} {H : Hp} {l : Addr} {ls : List α} (h : RowsH f K H l ls) : RowsAt f K H l ls := by
  obtain ⟨as, a, t⟩ := h
  exact ⟨as, SqL.of a, t⟩
structure BellsAt (C : Addr) (K : PySem.W.Frag) (H : Hp) (b cs fl st : Addr) (ls : List Cd) (fs : List Bool) (e : Eng) : Prop where
  ob : ∃ dx, H b = some (.ins C dx [("codes", .ref cs), ("failed", .ref fl), ("state", .ref st)])
  oc : ∃ as : List Addr, H cs = some (.lst (as.map V.ref)) ∧ TupsF cdV K H as ls
  of : H fl = some (.lst (fs.map V.bl))
  os : SqT K H st (engV e)
  nn : cs ≠ fl
  ln : fs.length = ls.length
theorem BellsAt.rows {C : Addr} {K : PySem.W.Frag} {H : Hp} {b cs fl st : Addr} {ls : List Cd} {fs : List Bool} {e : Eng} (h : BellsAt C K H b cs fl st ls fs e) : RowsAt cdV K H cs ls := by
  obtain ⟨as, a, t⟩ := h.oc
  exact ⟨as, SqL.of a, t⟩
theorem BellsAt.same {C : Addr} {K : PySem.W.Frag} {H H' : Hp} {b cs fl st : Addr} {ls : List Cd} {fs : List Bool} {e : Eng} (h : BellsAt C K H b cs fl st ls fs e) (s : Same H H') : BellsAt C K H' b cs fl st ls fs e := by
  obtain ⟨⟨dx, a⟩, ⟨as, c, t⟩, f, g, n, l⟩ := h
  exact ⟨⟨dx, s _ _ a⟩, ⟨as, s _ _ c, t.same s⟩, s _ _ f, s.tup g, n, l⟩
/-- a new state is put -/
theorem BellsAt.state {C : Addr} {K : PySem.W.Frag} {H H' : Hp} {b cs fl st st' dx : Addr} {ls : List Cd} {fs : List Bool} {e e' : Eng} (h : BellsAt C K H b cs fl st ls fs e) (k : Keeps b H H')
    (a : H' b = some (.ins C dx [("codes", .ref cs), ("failed", .ref fl), ("state", .ref st')])) (g : SqT K H' st' (engV e')) : BellsAt C K H' b cs fl st' ls fs e' := by
  obtain ⟨⟨dx0, a0⟩, ⟨as, c, t⟩, f, _, n, l⟩ := h
  exact ⟨⟨dx, a⟩, ⟨as, k _ _ (fun z => by rw [z, a0] at c; cases c) c, t.keepI k a0⟩, k _ _ (fun z => by rw [z, a0] at f; cases f) f, g, n, l⟩
/-- a bell fails -/
theorem BellsAt.fail {C : Addr} {K : PySem.W.Frag} {H H' : Hp} {b cs fl st : Addr} {ls : List Cd} {fs fs' : List Bool} {e : Eng} (h : BellsAt C K H b cs fl st ls fs e) (k : Keeps fl H H') (g : H' fl = some (.lst (fs'.map V.bl))) (hl : fs'.length = fs.length) : BellsAt C K H' b cs fl st ls fs' e := by
  obtain ⟨⟨dx0, a0⟩, ⟨as, c, t⟩, f, o, n, l⟩ := h
  exact ⟨⟨dx0, k _ _ (fun z => by rw [z, f] at a0; cases a0) a0⟩, ⟨as, k _ _ n c, t.keep k f⟩, g, o.keep k f, n, hl.trans l⟩
inductive Bd where
  | ring (l s : Int) | rept (s : Int) | use (l : Int) (k : Str) | fail (l : Int)
/-- the answer -/
def AnsB (K : PySem.W.Frag) (H : Hp) (e : Eng) : Bd → V → Prop
  | .rept s, v => ∃ (p : Addr) (l r : Int), e = .wait l r ∧ v = .ref p ∧ SqT K H p [.bl (decide (s = r)), .int r, .int s]
  | _, v => v = .non
theorem AnsB.same {K : PySem.W.Frag} {H H' : Hp} {e : Eng} {d : Bd} {v : V} (s : Same H H') (h : AnsB K H e d v) : AnsB K H' e d v := by
  cases d with
  | rept s0 =>
    obtain ⟨p, l, r, e1, e2, t⟩ := h
    exact ⟨p, l, r, e1, e2, s.tup t⟩
  | _ => exact h
end L2

namespace L2
open PySem PySem.Spec PyProof.Rows
section
variable {X : Cx}
end
/-! ### stands and steps -/
def lvl (ds : List Int) (d : Int) : Option Int := if d ∈ ds then some (ds.idxOf d : Nat) else none
def cageL (ds : List Int) (p c : Int) : Option Int := if c = 0 then lvl ds p else lvl ds (whole ds - p)
inductive Stp where
  | wind (c l : Int) | load (k c : Int) | unload (k c : Int)
/-- what can be done behind the level of the cage -/
def handV (lv : Option Int) (x : List Int) : Stp → Option (List Int)
  | .wind _ _ => none
  | .load k c => match lv with | none => none | some l => if x.getD (k.toNat + 1) 0 = l ∧ ¬ 10 + c ∈ x.tail then some (x.set (k.toNat + 1) (10 + c)) else none
  | .unload k c => match lv with | none => none | some l => if x.getD (k.toNat + 1) 0 = 10 + c then some (x.set (k.toNat + 1) l) else none
def stCage : Stp → Int
  | .wind c _ => c
  | .load _ c => c
  | .unload _ c => c
def stK : Stp → Int
  | .wind _ _ => 0
  | .load k _ => k
  | .unload k _ => k
def after (ds dead : List Int) (x : List Int) : Stp → Option (List Int)
  | .wind c l => if l < 0 ∨ (ds.length : Int) ≤ l ∨ l ∈ dead then none else some ((if c = 0 then ds.getD l.toNat 0 else whole ds - ds.getD l.toNat 0) :: x.tail)
  | s => if stK s < 0 ∨ (x.length : Int) ≤ stK s + 1 then none else handV (cageL ds (x.getD 0 0) (stCage s)) x s
def ResAt (K : PySem.W.Frag) (H : Hp) (v : V) : Option (List Int) → Prop
  | none => v = .non
  | some y => ∃ p, v = .ref p ∧ SqT K H p (y.map V.int)
theorem ResAt.same {K : PySem.W.Frag} {H H' : Hp} {v : V} {o : Option (List Int)} (s : Same H H') (h : ResAt K H v o) : ResAt K H' v o := by
  cases o with
  | none => exact h
  | some y => obtain ⟨p, e, t⟩ := h; exact ⟨p, e, s.tup t⟩
/-- t + u, u not known to be empty -/
theorem catT_ {K : PySem.W.Frag} {H : Hp} {Q : VK} {a b : Addr} {xs ys : List V} (ha : SqT K H a xs) (hb : SqT K H b ys) (n0 : xs ≠ []) (hn : xs.length + ys.length ≤ 1000) (q : ∀ p H', Same H H' → SqT K H' p (xs ++ ys) → Q (.ref p) H') : rCatT K (.ref a) (.ref b) H Q := by
  refine ⟨a, b, xs, ys, rfl, rfl, ha, hb, n0, Nat.le_of_lt (small1000 hn), fun e => ?_, fun _ p hp => q p _ ((Same.refl H).lay hp) (SqT.of upd_same)⟩
  subst e
  exact q a H (Same.refl H) (by rw [List.append_nil]; exact ha)
end L2

namespace L2
open PySem PySem.Spec PyProof.Rows
theorem place_one (a b i : Int) : (Builtin.Range.rangePlace? a b 1 i).isSome = decide (a ≤ i ∧ i < b) := by
  unfold Builtin.Range.rangePlace?
  rw [Bool.eq_iff_iff]
  simp
theorem range_has (r : Addr) (a b x : Int) (t u v tx : Tok) :
    Meets (Builtin.«range.__contains__» ⟨[.ref r, .int x tx], []⟩)
      (fun A R s => s.heap.get? r = some { cls := .type "range", data := .fields #[.int a t, .int b u, .int 1 v] } ∧ R (.ok (.ret (.bool (decide (a ≤ x ∧ x < b))))) s) :=
  .of_wp fun prog w A R s h => by
    obtain ⟨hp, g, d, tk, os⟩ := s; obtain ⟨hl, h⟩ := h
    wp_walk using wpAny_loadPart' hl
    rw [place_one]
    exact ⟨_, rfl, h⟩
section
variable {X : Cx}
/-- in, over range(lo, hi) -/
def rInR (neg : Bool) : R2 := fun x y H Q => ∃ (r : Addr) (lo hi i : Int), x = .int i ∧ y = .ref r ∧ H r = some (.rng lo hi) ∧ Q (.bl (if neg = true then !decide (lo ≤ i ∧ i < hi) else decide (lo ≤ i ∧ i < hi))) H
theorem op_notIn_rng : OpR X (compareOp .NotIn) (rInR true) := by
  intro pins s σ H x y v u Q I rx ry h
  obtain ⟨r, lo, hi, i, rfl, rfl, hr, q⟩ := h
  obtain ⟨tx, rfl⟩ := rx
  cases ry
  obtain ⟨t, u, v, e⟩ := I.hok r _ hr
  exact PySem.SeqRoads2.notIn_meets ⟨_, e, rfl⟩ PySem.F.slot_range_contains PySem.F.entry_range_contains (PySem.F.args_range_contains_2 _ _) (range_has r lo hi i t u v tx) ⟨e, _, rfl, ⟨.bl _, H, I, rfl, q⟩⟩
/-- t + u, of any two tuples -/
def rCatA (K : PySem.W.Frag) : R2 := fun x y H Q => ∃ a b xs ys, x = .ref a ∧ y = .ref b ∧ SqT K H a xs ∧ SqT K H b ys ∧ xs.length + ys.length ≤ 1000 ∧ ∀ p H', Same H H' → SqT K H' p (xs ++ ys) → Q (.ref p) H'
theorem op_catA : OpR X (binaryOp .Add) (rCatA X.K) := by
  intro pins s σ H x y v u Q I rx ry h
  obtain ⟨a, b, xs, ys, rfl, rfl, ha, hb, hz, q⟩ := h
  by_cases hx : xs = []
  · subst hx
    cases rx
    cases ry
    obtain ⟨its, r1, p1, _⟩ := I.tuple ha
    obtain ⟨its2, r2, p2, _⟩ := I.tuple hb
    have e1 := r1.zero
    subst e1
    obtain ⟨⟨cls, dd, data, sl⟩, ho, hc, n, hd⟩ := id p1
    obtain ⟨⟨cls2, dd2, data2, sl2⟩, ho2, hc2, n2, hd2⟩ := id p2
    simp only at hc hd hc2 hd2
    subst hc hd hc2 hd2
    exact concat_meets ⟨_, ho, rfl⟩ ⟨_, ho2, rfl⟩ noFill_tuple_add seq_tuple_add PySem.F.slot_tuple_add PySem.F.entry_tuple_add (PySem.F.args_tuple_add_2 _ _)
      (tuple_addW0 a b _ its2.toArray n n2 dd dd2 sl sl2 rfl) ⟨ho, ho2, ⟨.ref b, H, I, rfl, q b H (Same.refl H) hb⟩⟩
  · exact op_catT pins s σ H _ _ v u Q I rx ry (catT_ ha hb hx hz q)
end
/-! ### rows of spots -/
theorem ext_up : ∀ {xs ys : List Int}, xs.Pairwise (· < ·) → ys.Pairwise (· < ·) → (∀ k, k ∈ xs ↔ k ∈ ys) → xs = ys
  | [], [], _, _, _ => rfl
  | [], y :: ys, _, _, h => absurd ((h y).mpr List.mem_cons_self) (by simp)
  | x :: xs, [], _, _, h => absurd ((h x).mp List.mem_cons_self) (by simp)
  | x :: xs, y :: ys, hx, hy, h => by
    obtain ⟨x1, x2⟩ := List.pairwise_cons.mp hx
    obtain ⟨y1, y2⟩ := List.pairwise_cons.mp hy
    have e : x = y := by
      rcases List.mem_cons.mp ((h x).mp List.mem_cons_self) with e | e
      · exact e
      · rcases List.mem_cons.mp ((h y).mpr List.mem_cons_self) with e' | e'
        · exact e'.symm
        · have := y1 x e
          have := x1 y e'
          omega
    subst e
    rw [ext_up x2 y2 fun k => ?_]
    constructor
    · intro hk
      rcases List.mem_cons.mp ((h k).mp (List.mem_cons_of_mem _ hk)) with e | e
      · have := x1 k hk
        omega
      · exact e
    · intro hk
      rcases List.mem_cons.mp ((h k).mpr (List.mem_cons_of_mem _ hk)) with e | e
      · have := y1 k hk
        omega
      · exact e
def choicesF (L : Nat) : List Int := (List.range L).map (fun (i : Nat) => (i : Int)) ++ [10, 11]
def fits (row : List Int) (s : Int) : Bool := decide (¬ (s = 10 ∨ s = 11) ∨ ¬ s ∈ row)
def longerF (L : Nat) (row : List Int) : List (List Int) := ((choicesF L).filter (fits row)).map fun s => row ++ [s]
def rowsF (L : Nat) : Nat → List (List Int)
  | 0 => [[]]
  | n + 1 => (rowsF L n).flatMap (longerF L)
def lexB : List Int → List Int → Bool
  | x :: xs, y :: ys => if x = y then lexB xs ys else decide (x < y)
  | _, _ => false
theorem lexB_app : ∀ {r r' : List Int} (s s' : List Int), r.length = r'.length → lexB r r' = true → lexB (r ++ s) (r' ++ s') = true
  | [], [], _, _, _, h => by cases h
  | x :: xs, y :: ys, s, s', hl, h => by
    simp only [lexB, List.cons_append] at h ⊢
    split
    · rename_i e
      rw [if_pos e] at h
      exact lexB_app s s' (by simpa using hl) h
    · rename_i e
      rw [if_neg e] at h
      exact h
theorem lexB_last : ∀ (r : List Int) {a b : Int}, a < b → lexB (r ++ [a]) (r ++ [b]) = true
  | [], a, b, h => by
    show (if a = b then lexB [] [] else decide (a < b)) = true
    rw [if_neg (by omega)]
    simpa using h
  | x :: xs, a, b, h => by
    simp only [lexB, List.cons_append, ↓reduceIte]
    exact lexB_last xs h
theorem choicesF_up {L : Nat} (h : L ≤ 6) : (choicesF L).Pairwise (· < ·) := by
  unfold choicesF
  rw [List.pairwise_append]
  refine ⟨?_, by simp, fun a ha b hb => ?_⟩
  · rw [List.pairwise_map]
    exact List.pairwise_lt_range.imp fun h => by omega
  · obtain ⟨i, hi, rfl⟩ := List.mem_map.mp ha
    rw [List.mem_range] at hi
    simp only [List.mem_cons, List.not_mem_nil, or_false] at hb
    omega
theorem choicesF_mem {L : Nat} {s : Int} (h : s ∈ choicesF L) : (0 ≤ s ∧ s < L) ∨ s = 10 ∨ s = 11 := by
  rcases List.mem_append.mp h with h | h
  · obtain ⟨i, hi, rfl⟩ := List.mem_map.mp h
    rw [List.mem_range] at hi
    exact .inl ⟨by omega, by omega⟩
  · simp only [List.mem_cons, List.not_mem_nil, or_false] at h
    exact .inr h
structure RowOk (L n : Nat) (r : List Int) : Prop where
  len : r.length = n
  ok : ∀ k, k < n → ((0 ≤ r.getD k 0 ∧ r.getD k 0 < L) ∨ r.getD k 0 = 10 ∨ r.getD k 0 = 11) ∧ (10 ≤ r.getD k 0 → ¬ r.getD k 0 ∈ r.take k)
theorem rowsF_ok {L : Nat} (hL : L ≤ 6) : ∀ {n : Nat} {r : List Int}, r ∈ rowsF L n → RowOk L n r
  | 0, r, h => by
    simp only [rowsF, List.mem_singleton] at h
    subst h
    exact ⟨rfl, fun k hk => absurd hk (Nat.not_lt_zero _)⟩
  | n + 1, r, h => by
    obtain ⟨r0, h0, h1⟩ := List.mem_flatMap.mp h
    obtain ⟨s, hs, rfl⟩ := List.mem_map.mp h1
    obtain ⟨hc, hf⟩ := List.mem_filter.mp hs
    have ih := rowsF_ok hL h0
    have hm := choicesF_mem hc
    refine ⟨by rw [List.length_append, ih.len]; rfl, fun k hk => ?_⟩
    by_cases hkn : k < n
    · have e : (r0 ++ [s]).getD k 0 = r0.getD k 0 := by
        rw [List.getD_eq_getElem?_getD, List.getD_eq_getElem?_getD, List.getElem?_append_left (by rw [ih.len]; exact hkn)]
      rw [e, List.take_append_of_le_length (by rw [ih.len]; omega)]
      exact ih.ok k hkn
    · have ek : k = n := by omega
      subst ek
      have e : (r0 ++ [s]).getD k 0 = s := by
        rw [List.getD_eq_getElem?_getD, List.getElem?_append_right (by rw [ih.len]; exact Nat.le_refl _), ih.len]
        simp
      rw [e]
      refine ⟨hm, fun h10 => ?_⟩
      rw [List.take_append_of_le_length (by rw [ih.len]; exact Nat.le_refl _), List.take_of_length_le (by rw [ih.len]; exact Nat.le_refl _)]
      have := of_decide_eq_true hf
      rcases this with z | z
      · exact absurd (by omega) z
      · exact z
theorem rowsF_up {L : Nat} (hL : L ≤ 6) : ∀ (n : Nat), (rowsF L n).Pairwise (fun a b => lexB a b = true)
  | 0 => by simp [rowsF]
  | n + 1 => by
    show ((rowsF L n).flatMap (longerF L)).Pairwise _
    rw [List.pairwise_flatMap]
    refine ⟨fun r hr => ?_, ?_⟩
    · unfold longerF
      rw [List.pairwise_map]
      exact ((choicesF_up hL).sublist List.filter_sublist).imp fun h => lexB_last r h
    · refine ((rowsF_up hL n).imp_of_mem fun {a b} ha hb h => ?_)
      intro x hx y hy
      obtain ⟨s, _, rfl⟩ := List.mem_map.mp hx
      obtain ⟨s', _, rfl⟩ := List.mem_map.mp hy
      exact lexB_app _ _ (by rw [(rowsF_ok hL ha).len, (rowsF_ok hL hb).len]) h
def waysF (L : Nat) : Nat → Nat
  | 0 => 1
  | 1 => L + 2
  | 2 => L * L + 4 * L + 2
  | _ => L * L * L + 6 * L * L + 6 * L
theorem rowsF_len {L n : Nat} (h2 : 2 ≤ L) (h6 : L ≤ 6) (h3 : n ≤ 3) : (rowsF L n).length = waysF L n := by
  have h : ((List.range 5).all fun a => (List.range 4).all fun n => (rowsF (a + 2) n).length == waysF (a + 2) n) = true := by decide +kernel
  rw [List.all_eq_true] at h
  have h1 := h (L - 2) (by rw [List.mem_range]; omega)
  rw [List.all_eq_true] at h1
  have h2' := h1 n (by rw [List.mem_range]; omega)
  rw [show L - 2 + 2 = L by omega] at h2'
  exact beq_iff_eq.mp h2'
theorem longerF_len (L : Nat) (r : List Int) : (longerF L r).length ≤ L + 2 := by
  unfold longerF
  rw [List.length_map]
  refine Nat.le_trans (List.length_filter_le _ _) ?_
  unfold choicesF
  simp
theorem waysF_le {L n : Nat} (h6 : L ≤ 6) (h3 : n ≤ 3) : waysF L n ≤ 500 := by
  rcases (by omega : L = 0 ∨ L = 1 ∨ L = 2 ∨ L = 3 ∨ L = 4 ∨ L = 5 ∨ L = 6) with rfl | rfl | rfl | rfl | rfl | rfl | rfl <;> rcases (by omega : n = 0 ∨ n = 1 ∨ n = 2 ∨ n = 3) with rfl | rfl | rfl | rfl <;> decide
def intsV (r : List Int) : List V := r.map V.int
end L2

namespace K16
open PySem L2
local macro_rules | `(tactic| walk_at "rd") => `(tactic| (try simp only [tSeq, tIfS, tTest, tB, tOp, tUn, tVar, tCB, tCons, tNil, tCall, rI0, rI, rU, rEq, rNe, tRet, tRetN, tC, tNext, tDrop, tAsg, gName, gTup, gCons, gNil, rIxL, rIxT, tAnd, tOr, tNot, tAndV, tOrV, tNotV, tIf, tLst, tTup, tBM, rAppend, tSl, tNoPart, tPart, rSlL, rSlT, rCat, iRng1, iRng2, iList, iTup, tFor_eq, tComp_eq, rIn, tYes, tRaise, tTry, tCallT, rEqL, tRev, tSortSet, tFld, sFld, tMeth, tMake, iEnum, iZip, rExtend, rPop, rInR, rCatA, rIndex, rIndexT, rNeT, tBM0, rClear, gSub, rSetL, σof_cons_none, σof_cons_some, σof_nil, scal_ii, scal_bb, scal_ss, CDiv, CMul, CPow, start_eq, cxOf_K, List.length_cons, List.length_nil, List.map_cons, List.map_nil, List.cons_append, List.nil_append, List.append_nil, List.getElem?_cons_zero, List.getElem?_cons_succ, List.set_cons_zero, List.set_cons_succ, List.replicate_succ, List.replicate_zero, Nat.reduceAdd, Nat.reduceSub, Int.reducePow, Int.reduceToNat, Nat.reducePow, Int.reduceNeg, Int.reduceLT, Int.reduceLE, and_self, or_true, true_or, Option.some.injEq, Option.getD_some, exists_eq_left, exists_eq_left', exists_eq_right, V.ref.injEq, V.int.injEq, V.bl.injEq, V.str.injEq, V.ty.injEq, List.cons.injEq, and_true, true_and, exists_and_left, decide_eq_true_eq, Bool.not_eq_true', Bool.not_true, Bool.not_false, decide_eq_false_iff_not, reduceCtorEq, false_and, and_false, exists_false, Nat.reduceLeDiff, ↓reduceIte, and_assoc, not_true_eq_false, not_false_eq_true]))
def top (i : Nat) : Stmt := PySem.Challenge.pw_cagebells_k16_every_stand.main.body.getD i (.Pass ⟨0, 0, 0, 0⟩)
abbrev s_drum_whole : Stmt := top 1
theorem sc_drum_whole : FnScope ["depths"] ["depths"] (defScope s_drum_whole) := ⟨rfl, rfl, rfl, by decide +kernel, rfl, by decide +kernel, by decide +kernel⟩
abbrev s_other_place : Stmt := top 2
theorem sc_other_place : FnScope ["depths", "place"] ["depths", "place"] (defScope s_other_place) := ⟨rfl, rfl, rfl, by decide +kernel, rfl, by decide +kernel, by decide +kernel⟩
abbrev s_wound_place : Stmt := top 3
theorem sc_wound_place : FnScope ["depths", "cage", "level"] ["depths", "cage", "level"] (defScope s_wound_place) := ⟨rfl, rfl, rfl, by decide +kernel, rfl, by decide +kernel, by decide +kernel⟩
abbrev s_all_stops : Stmt := top 4
theorem sc_all_stops : FnScope ["depths", "places", "level"] ["depths"] (defScope s_all_stops) := ⟨rfl, rfl, rfl, by decide +kernel, rfl, by decide +kernel, by decide +kernel⟩
abbrev s_all_stands : Stmt := top 8
theorem sc_all_stands : FnScope ["depths", "many", "rows", "stands", "stop"] ["depths", "many"] (defScope s_all_stands) := ⟨rfl, rfl, rfl, by decide +kernel, rfl, by decide +kernel, by decide +kernel⟩
abbrev s_spot_rows : Stmt := top 9
theorem sc_spot_rows : FnScope ["levels", "many", "choices", "rows", "load", "longer", "row"] ["levels", "many"] (defScope s_spot_rows) := ⟨rfl, rfl, rfl, by decide +kernel, rfl, by decide +kernel, by decide +kernel⟩
abbrev s_l_whole : Stmt := top 11
theorem sc_l_whole : FnScope ["_law_found"] ["_law_found"] (defScope s_l_whole) := ⟨rfl, rfl, rfl, by decide +kernel, rfl, by decide +kernel, by decide +kernel⟩
abbrev s_l_at : Stmt := top 12
theorem sc_l_at : FnScope ["_law_script", "_law_k"] ["_law_script", "_law_k"] (defScope s_l_at) := ⟨rfl, rfl, rfl, by decide +kernel, rfl, by decide +kernel, by decide +kernel⟩
abbrev s_l_draw : Stmt := top 13
theorem sc_l_draw : FnScope ["_law_cell", "_law_k", "_law_span", "_law_rest", "_law_turn", "_law_one"] ["_law_cell", "_law_k", "_law_span"] (defScope s_l_draw) := ⟨rfl, rfl, rfl, by decide +kernel, rfl, by decide +kernel, by decide +kernel⟩
abbrev s_l_ints : Stmt := top 14
theorem sc_l_ints : FnScope ["_law_found", "_law_due", "_law_k"] ["_law_found", "_law_due"] (defScope s_l_ints) := ⟨rfl, rfl, rfl, by decide +kernel, rfl, by decide +kernel, by decide +kernel⟩
abbrev s_l_depths : Stmt := top 15
theorem sc_l_depths : FnScope ["_law_cell", "_law_many_here", "_law_shape", "_law_gap", "_law_made", "_law_last", "_law_k", "_law_span"] ["_law_cell"] (defScope s_l_depths) := ⟨rfl, rfl, rfl, by decide +kernel, rfl, by decide +kernel, by decide +kernel⟩
abbrev s_l_stops : Stmt := top 16
theorem sc_l_stops : FnScope ["_law_depths_here", "_law_found", "_law_place"] ["_law_depths_here"] (defScope s_l_stops) := ⟨rfl, rfl, rfl, by decide +kernel, rfl, by decide +kernel, by decide +kernel⟩
abbrev s_l_many : Stmt := top 17
theorem sc_l_many : FnScope ["_law_cell", "_law_levels", "_law_many_here"] ["_law_cell", "_law_levels"] (defScope s_l_many) := ⟨rfl, rfl, rfl, by decide +kernel, rfl, by decide +kernel, by decide +kernel⟩
abbrev s_l_is_stand : Stmt := top 18
theorem sc_l_is_stand : FnScope ["_law_found", "_law_many_here", "_law_levels", "_law_places", "_law_number", "_law_k"] ["_law_found", "_law_many_here", "_law_levels", "_law_places"] (defScope s_l_is_stand) := ⟨rfl, rfl, rfl, by decide +kernel, rfl, by decide +kernel, by decide +kernel⟩
abbrev s_l_below : Stmt := top 19
theorem sc_l_below : FnScope ["_law_one", "_law_two", "_law_k"] ["_law_one", "_law_two"] (defScope s_l_below) := ⟨rfl, rfl, rfl, by decide +kernel, rfl, by decide +kernel, by decide +kernel⟩
abbrev s_law : Stmt := top 20
theorem sc_law : FnScope ["_law_script", "_law_depths_here", "_law_levels", "_law_many_here", "_law_handed", "_law_found", "_law_places", "_law_k", "_law_ways"] ["_law_script"] (defScope s_law) := ⟨rfl, rfl, rfl, by decide +kernel, rfl, by decide +kernel, by decide +kernel⟩
structure Adr where
  t_CAGE_SPOTS : Addr
structure Txt (K : PySem.W.Frag) (mg : Str → Option Value) (Z : Adr) : Prop where
  g_len : mg "len" = none
  g_range : mg "range" = none
  g_sorted : mg "sorted" = none
  g_set : mg "set" = none
  g_list : mg "list" = none
  g_isinstance : mg "isinstance" = none
  g_int : mg "int" = none
  g_bool : mg "bool" = none
  g_min : mg "min" = none
  g_tuple : mg "tuple" = none
  c_MOST_PLANNED : ∃ u, mg "MOST_PLANNED" = some u ∧ RelV (.int 3) u
  c_CAGE_SPOTS : ∃ u, mg "CAGE_SPOTS" = some u ∧ RelV (.ref Z.t_CAGE_SPOTS) u
  q_CAGE_SPOTS : ∀ H, SqT K H Z.t_CAGE_SPOTS [.int 10, .int 11]
section
variable {P : Program} {w : World} {K : PySem.W.Frag} {mg : Str → Option Value} {base : Heap} {Z : Adr}
def SP_drum_whole (K : PySem.W.Frag) (Z : Adr) : Sp := fun vs H Q _ => ∃ (a : Addr) (ds : List Int), vs = [.ref a] ∧ SqL K H a (ds.map V.int) ∧ 0 < ds.length ∧ Q (.int (whole ds)) H
theorem ok_drum_whole {f : Addr} {fd : FuncData} (F : Fun K "drum_whole" "drum_whole" s_drum_whole f fd) (T : Txt K mg Z) : FnOk P w K mg base CX0 1 f fd ["depths"] (SP_drum_whole K Z) := by
  refine F.ok sc_drum_whole (fun vs H Q E h => ?_) (fun cdv A outer s H vs Q E hr h => ?_)
  · obtain ⟨a, ds, rfl, hS, hl, q⟩ := h
    rfl
  · obtain ⟨a, ds, rfl, hS, hl, q⟩ := h
    refine ⟨_, pss_one (ps_ret (pe_ix ix_list (pv 0) (pe_op op_sub (pe_callB call_len_seq (by rfl) T.g_len bo_len (pa_cons (pv 0) pa_nil)) pe_int) (fun _ _ => rfl))), ?_⟩
    walk_at "rd"
    refine ⟨_, .inl hS, _, hS, _, atI_int (by rw [List.length_map]; omega) (by rw [List.length_map]; omega), ?_⟩
    rw [List.length_map, show ((ds.length : Int) - 1).toNat = ds.length - 1 by omega]
    exact q
def longTo (L : Nat) (row : List Int) (i : Nat) : List (List Int) := (((choicesF L).take i).filter (fits row)).map fun s => row ++ [s]
theorem longTo_succ (L : Nat) (row : List Int) (i : Nat) (s : Int) (e : (choicesF L)[i]? = some s) : longTo L row (i + 1) = longTo L row i ++ (if fits row s = true then [row ++ [s]] else []) := by
  obtain ⟨hi, es⟩ := List.getElem?_eq_some_iff.mp e
  unfold longTo
  rw [List.take_succ_eq_append_getElem hi, List.filter_append, List.map_append, es]
  by_cases h : fits row s = true
  · rw [if_pos h, List.filter_cons, if_pos h]; rfl
  · rw [if_neg h, List.filter_cons, if_neg h]; rfl
theorem longTo_len (L : Nat) (row : List Int) (i : Nat) : (longTo L row i).length ≤ i := by
  unfold longTo
  rw [List.length_map]
  exact Nat.le_trans (List.length_filter_le _ _) (by rw [List.length_take]; omega)
def iv_sr (K : PySem.W.Frag) (L m : Nat) (c : Addr) (H : Hp) (i : Nat) (σ : St) (H' : Hp) : Prop := Same H H' ∧ H' c = some (.lst ((choicesF L).map V.int)) ∧ ∃ (l : Addr) (as : List Addr) (t1 t2 t3 : Option V), σ = [some (.int L), some (.int m), some (.ref c), some (.ref l), t1, t2, t3] ∧ H l = none ∧ H' l = some (.lst (as.map V.ref)) ∧ TupsF intsV K H' as (rowsF L i)
def iv_sl (K : PySem.W.Frag) (L m : Nat) (c l lg : Addr) (t1 : Option V) (rs : List (List Int)) (H1 : Hp) (i : Nat) (σ : St) (H' : Hp) : Prop := Same H1 H' ∧ H1 lg = none ∧ ∃ (as : List Addr) (t3 : Option V), σ = [some (.int L), some (.int m), some (.ref c), some (.ref l), t1, some (.ref lg), t3] ∧ H' lg = some (.lst (as.map V.ref)) ∧ TupsF intsV K H' as ((rs.take i).flatMap (longerF L))
theorem flat_len {L : Nat} (hL : L ≤ 6) (rs : List (List Int)) : (rs.flatMap (longerF L)).length ≤ 8 * rs.length := by
  induction rs with
  | nil => simp
  | cons r rs ih =>
    rw [List.flatMap_cons, List.length_append, List.length_cons]
    have := longerF_len L r
    omega
def SP_spot_rows (K : PySem.W.Frag) (Z : Adr) : Sp := fun vs H Q _ => ∃ (L m : Nat), vs = [.int L, .int m] ∧ 2 ≤ L ∧ L ≤ 6 ∧ m ≤ 3 ∧ ∀ (l : Addr) (as : List Addr) (H' : Hp), H l = none → Same H H' → H' l = some (.lst (as.map V.ref)) → TupsF intsV K H' as (rowsF L m) → Q (.ref l) H'
theorem ok_spot_rows {f : Addr} {fd : FuncData} (F : Fun K "spot_rows" "spot_rows" s_spot_rows f fd) (T : Txt K mg Z) : FnOk P w K mg base CX0 1 f fd ["levels", "many"] (SP_spot_rows K Z) := by
  refine F.ok sc_spot_rows (fun vs H Q E h => ?_) (fun cdv A outer s H vs Q E hr h => ?_)
  · obtain ⟨L, m, rfl, L2, L6, m3, q⟩ := h
    rfl
  · obtain ⟨L, m, rfl, L2, L6, m3, q⟩ := h
    refine ⟨_, pss_cons (ps_set (i := 2) sc_spot_rows.nd rfl (Or.inl rfl) (pe_op op_cat (pe_callTy (call_list_rng rfl) (by rfl) T.g_list bo_list (pa_cons (pe_callTy call_rangeV (by rfl) T.g_range bo_range (pa_cons (pv 0) pa_nil)) pa_nil)) (pe_callTy call_list_of (by rfl) T.g_list bo_list (pa_cons (pe_globV (by rfl) T.c_CAGE_SPOTS) pa_nil)))) (pss_cons (ps_set (i := 3) sc_spot_rows.nd rfl (Or.inl rfl) (pe_lst (pa_cons (pe_tup pa_nil) pa_nil))) (pss_cons (ps_for PassesOwn.never rfl (pi_range1 (by rfl) T.g_range (pa_cons (pv 1) pa_nil)) (pg_name (i := 4) sc_spot_rows.nd rfl (Or.inl rfl)) (pss_cons (ps_set (i := 5) sc_spot_rows.nd rfl (Or.inl rfl) (pe_lst pa_nil)) (pss_cons (ps_for PassesOwn.never rfl (pi_list (pv 3)) (pg_name (i := 6) sc_spot_rows.nd rfl (Or.inr rfl)) (pss_one (ps_expr (pe_bm PySem.F.plainAttrs_list PySem.F.slot_list_extend PySem.F.type_list_extend mt_extend (pv 5) (pa_cons (pe_lc ["spot", "row"] [none, some 6] (pi_list (pv 2)) (fun _ _ _ _ => (pg_name (i := 0) (show (["spot", "row"] : List Str).Nodup by decide +kernel) rfl (Or.inl rfl))) (fun _ _ _ _ => (pif_one (pw_or (pt_cmpR (show OpR _ _ (rIn K true) from op_notIn_seq) (pv 0) (pe_globV (by rfl) T.c_CAGE_SPOTS) (by rfl)) (pw_or1 (pt_cmpR (show OpR _ _ (rIn K true) from op_notIn_seq) (pv 0) (pv 1) (by rfl)))).pt)) (fun _ _ _ _ => (pe_op (show OpR _ _ (rCatA K) from op_catA) (pv 1) (pe_tup (pa_cons (pv 0) pa_nil))))) pa_nil))))) (pss_one (ps_set (i := 3) sc_spot_rows.nd rfl (Or.inl rfl) (pv 5)))))) (pss_one (ps_ret (pv 3))))), ?_⟩
    walk_at "rd"
    intro r hr
    refine ⟨L, by rw [upd_same], by omega, fun p1 hp1 => ⟨_, .inr (T.q_CAGE_SPOTS _), fun p2 hp2 => ⟨_, upo upd_same hp2, _, upd_same, Nat.le_of_lt (small1000 (by simp only [List.length_map, List.length_range]; show _ + 2 ≤ 1000; omega)), ?_⟩⟩⟩
    have ec : List.map (fun (i : Nat) => V.int (i : Int)) (List.range L) ++ [V.int 10, V.int 11] = (choicesF L).map V.int := by
      unfold choicesF
      rw [List.map_append, List.map_map]; rfl
    rw [ec]
    refine fun c hc => ⟨by decide, fun p3 hp3 => ⟨by decide, fun l hl => ?_⟩⟩
    have s0 := (Same.refl H).lay (o := HO.rng 0 L) hr |>.lay (o := HO.lst (List.map (fun (i : Nat) => V.int (i : Int)) (List.range L))) hp1 |>.lay (o := HO.lst [V.int 10, V.int 11]) hp2
    have s1 := s0.lay (o := HO.lst ((choicesF L).map V.int)) hc |>.lay (o := HO.tup []) hp3
    have hln := s1.free hl
    refine ⟨by omega, by omega, ?_⟩
    refine loop_range (iv_sr K L m c H) ⟨s1.lay hl, upo (upo upd_same hp3) hl, l, [p3], _, _, _, rfl, hln, upd_same, TupsF.one (SqT.of (upo upd_same hl))⟩ ?_ ?_
    · rintro i σ H1 hi ⟨s1, hc1, l, as, t1, t2, t3, rfl, hln, hl1, hT⟩
      walk_at "rd"
      refine ⟨by decide, fun lg hlg => ⟨⟨_, SqL.of (upo hl1 hlg)⟩, ?_⟩⟩
      refine loop_list (as.map V.ref) (iv_sl K L m c l lg (some (.int (0 + i))) (rowsF L i) H1) ⟨(Same.refl H1).lay hlg, hlg, [], _, rfl, upd_same, TupsF.nil⟩ (fun j σ H' _ ⟨s, _⟩ => s.seq (SqL.of hl1)) ?_ ?_
      · rintro j x σ H2 hx ⟨s2, hlg0, bs, t3', rfl, hlg2, hT2⟩
        rw [List.getElem?_map] at hx
        obtain ⟨a, ea, rfl⟩ := Option.map_eq_some_iff.mp hx
        have hj : j < as.length := (List.getElem?_eq_some_iff.mp ea).1
        have hj' : j < (rowsF L i).length := by rw [← hT.1]; exact hj
        have er : (rowsF L i)[j]? = some (rowsF L i)[j] := List.getElem?_eq_getElem hj'
        have hrow := s2.tup (hT.2 j a _ ea er)
        have hrl : (rowsF L i)[j].length = i := (rowsF_ok L6 (List.getElem_mem hj')).len
        have etk : ((rowsF L i).take (j + 1)).flatMap (longerF L) = ((rowsF L i).take j).flatMap (longerF L) ++ longerF L (rowsF L i)[j] := by
          rw [List.take_succ_eq_append_getElem hj', List.flatMap_append]; simp
        generalize (rowsF L i)[j] = row at *
        have hwl : (rowsF L i).length ≤ 500 := by rw [rowsF_len L2 L6 (by omega)]; exact waysF_le L6 (by omega)
        have hfl := flat_len L6 ((rowsF L i).take j)
        rw [List.length_take] at hfl
        walk_at "rd"
        refine ⟨.inl ⟨rfl, _, SqL.of hlg2⟩, ⟨_, SqL.of (s2 _ _ hc1)⟩, ?_⟩
        refine cj_inv (choicesF L).length (fun k acc H' => Same H2 H' ∧ ∃ cs : List Addr, acc = cs.map V.ref ∧ TupsF intsV K H' cs (longTo L row k)) ⟨Same.refl _, [], rfl, TupsF.nil⟩ ?_ ?_ ?_ ?_
        · rintro k acc H' hk ⟨s3, _⟩
          exact ⟨_, .int ((choicesF L)[k]), SqL.of (s3 _ _ (s2 _ _ hc1)), by rw [List.getElem?_map, List.getElem?_eq_getElem hk]; rfl⟩
        · rintro acc H' ⟨s3, _⟩
          exact ⟨_, SqL.of (s3 _ _ (s2 _ _ hc1)), by rw [List.length_map]; exact Nat.le_refl _⟩
        · rintro k acc H' hk ⟨s3, cs, rfl, hT3⟩
          have hcl : (choicesF L).length = L + 2 := by unfold choicesF; simp
          have hll := longTo_len L row k
          refine ⟨small1000 (by rw [List.length_map, hT3.1]; omega), ?_⟩
          rintro x H4 ⟨e4, y⟩ M hM
          subst e4
          have hy := y _ (SqL.of (s3 _ _ (s2 _ _ hc1)))
          rw [List.getElem?_map, List.getElem?_eq_getElem hk] at hy
          cases hy
          have es := longTo_succ L row k _ (List.getElem?_eq_getElem hk)
          generalize (choicesF L)[k] = s at *
          walk_at "rd"
          refine ⟨⟨rfl, fun k v e => by match k, e with | 0, e => cases e | 1, e => exact e | k + 2, e => cases e⟩, ?_⟩
          have put : fits row s = true → ∀ v H5, (∃ b, v = .ref b ∧ Same H4 H5 ∧ SqT K H5 b (intsV (row ++ [s]))) → M (cs.map V.ref ++ [v]) H5 := by
            rintro hf v H5 ⟨b, rfl, s5, t5⟩
            refine hM _ _ ⟨s3.trans s5, cs ++ [b], by rw [List.map_append]; rfl, ?_⟩
            rw [es, if_pos hf]
            exact (hT3.same s5).app (TupsF.one t5)
          have skip : fits row s = false → M (cs.map V.ref) H4 := fun hf => hM _ _ ⟨s3, cs, rfl, by rw [es, if_neg (by rw [hf]; decide), List.append_nil]; exact hT3⟩
          have go : fits row s = true → 1 ≤ sizeLine ∧ ∀ p, H4 p = none → ∃ x, SqT K (upd H4 p (HO.tup [V.int s])) a x ∧ ∃ x_1, SqT K (upd H4 p (HO.tup [V.int s])) p x_1 ∧ x.length + x_1.length ≤ 1000 ∧ ∀ p1 H', Same (upd H4 p (HO.tup [V.int s])) H' → SqT K H' p1 (x ++ x_1) → M (cs.map V.ref ++ [V.ref p1]) H' := fun hf => ⟨by decide, fun p hp => ⟨_, ((Same.refl _).lay hp).tup (s3.tup hrow), _, SqT.of upd_same, by show (row.map V.int).length + 1 ≤ 1000; rw [List.length_map]; omega, fun p1 H5 s5 t5 => put hf _ _ ⟨p1, rfl, ((Same.refl _).lay hp).trans s5, by unfold intsV; rw [List.map_append]; exact t5⟩⟩⟩
          refine ⟨_, .inr (T.q_CAGE_SPOTS _), rfl, rfl, ?_⟩
          rw [inV_two]
          by_cases hs : s = 10 ∨ s = 11
          · rw [if_neg fun z => (of_decide_eq_false z) hs]
            refine ⟨_, .inr (s3.tup hrow), rfl, flat_intL _, ?_⟩
            rw [show intsV row = row.map V.int from rfl, inV_int]
            by_cases hm : s ∈ row
            · rw [if_neg (by simpa using hm)]
              exact skip (by unfold fits; simp [hs, hm])
            · rw [if_pos (by simpa using hm)]
              exact go (by unfold fits; simp [hm])
          · rw [if_pos (decide_eq_false hs)]
            exact go (by unfold fits; simp [hs])
        · rintro acc H3 ⟨s3, cs, rfl, hT3⟩ p hp
          have ell : longTo L row (choicesF L).length = longerF L row := by unfold longTo longerF; rw [List.take_length]
          rw [ell] at hT3
          have hlr := longerF_len L row
          walk_at "rd"
          refine ⟨_, upo (s3 _ _ hlg2) hp, _, upd_same, Nat.le_of_lt (by rw [List.length_map, List.length_map, hT2.1, hT3.1, sizeLine_eq]; omega), ?_⟩
          refine ⟨(s2.trans s3 |>.lay hp).rewr hlg0, hlg0, bs ++ cs, _, rfl, by rw [upd_same, List.map_append], ?_⟩
          rw [etk]
          exact ((hT2.same (s3.lay hp)).app (hT3.same ((Same.refl H3).lay hp))).rew (upo (s3 _ _ hlg2) hp)
      · rintro σ H2 ⟨s2, hlg0, bs, t3', rfl, hlg2, hT2⟩
        walk_at "rd"
        rw [List.length_map, hT.1, List.take_length] at hT2
        exact ⟨s1.trans s2, s2 _ _ hc1, lg, bs, _, _, _, rfl, s1.free hlg0, hlg2, hT2⟩
    · rintro σ H1 ⟨s1, hc1, l, as, t1, t2, t3, rfl, hln, hl1, hT⟩
      walk_at "rd"
      exact q l as H1 hln s1 hl1 (by simpa using hT)
def SP_l_whole (K : PySem.W.Frag) (Z : Adr) : Sp := fun vs H Q _ => ∃ (i : Int), vs = [.int i] ∧ Q (.bl true) H
theorem ok_l_whole {f : Addr} {fd : FuncData} (F : Fun K "_law_whole" "_law_whole" s_l_whole f fd) (T : Txt K mg Z) : FnOk P w K mg base CX0 1 f fd ["_law_found"] (SP_l_whole K Z) := by
  refine F.ok sc_l_whole (fun vs H Q E h => ?_) (fun cdv A outer s H vs Q E hr h => ?_)
  · obtain ⟨i, rfl, q⟩ := h
    rfl
  · obtain ⟨i, rfl, q⟩ := h
    refine ⟨_, pss_one (ps_ret (pe_and (pe_callB call_isi (by rfl) T.g_isinstance bo_isinstance (pa_cons (pv 0) (pa_cons (pe_bltn (v := .ty "int") (by rfl) T.g_int bo_int rfl) pa_nil))) (pe_one (pe_not (pe_callB call_isi (by rfl) T.g_isinstance bo_isinstance (pa_cons (pv 0) (pa_cons (pe_bltn (v := .ty "bool") (by rfl) T.g_bool bo_bool rfl) pa_nil))))))), ?_⟩
    walk_at "rd"
    refine isi_int_int ?_
    walk_at "rd"
    refine isi_int_bool ?_
    walk_at "rd"
    exact q
def SP_l_at (K : PySem.W.Frag) (Z : Adr) : Sp := fun vs H Q _ => ∃ (a : Addr) (ns : List Int) (k : Int), vs = [.ref a, .int k] ∧ SqL K H a (ns.map V.int) ∧ 0 ≤ k ∧ Q (.int (ns.getD k.toNat 0)) H
theorem ok_l_at {f : Addr} {fd : FuncData} (F : Fun K "_law_at" "_law_at" s_l_at f fd) (T : Txt K mg Z) : FnOk P w K mg base CX0 1 f fd ["_law_script", "_law_k"] (SP_l_at K Z) := by
  refine F.ok sc_l_at (fun vs H Q E h => ?_) (fun cdv A outer s H vs Q E hr h => ?_)
  · obtain ⟨a, ns, k, rfl, hS, hk, q⟩ := h
    rfl
  · obtain ⟨a, ns, k, rfl, hS, hk, q⟩ := h
    refine ⟨_, pss_cons (ps_if (pt_cmpR op_lt (pv 1) (pe_callB call_len_seq (by rfl) T.g_len bo_len (pa_cons (pv 0) pa_nil)) (nomark _)) (pss_one (ps_ret (pe_ix ix_list (pv 0) (pv 1) (fun _ _ => rfl)))) (pss_nil)) (pss_one (ps_ret pe_int)), ?_⟩
    walk_at "rd"
    refine ⟨_, .inl hS, ?_⟩
    rw [List.length_map]
    split
    · rename_i hlt
      exact ⟨_, hS, _, atI_int hk hlt, q⟩
    · rename_i hlt
      rw [getD_out (by omega)] at q
      exact q
def iv_draw (c k n : Int) (H : Hp) (_ : Nat) (σ : St) (H' : Hp) : Prop := H' = H ∧ ∃ r t, σ = [some (.int c), some (.int k), some (.int n), some (.int r), t, none]
def SP_l_draw (K : PySem.W.Frag) (Z : Adr) : Sp := fun vs H Q _ => ∃ (c k n : Int), vs = [.int c, .int k, .int n] ∧ 0 ≤ k ∧ k ≤ 100000 ∧ 0 < n ∧ ∀ r : Int, 0 ≤ r → r < n → Q (.int r) H
theorem ok_l_draw {f : Addr} {fd : FuncData} (F : Fun K "_law_draw" "_law_draw" s_l_draw f fd) (T : Txt K mg Z) : FnOk P w K mg base CX0 1 f fd ["_law_cell", "_law_k", "_law_span"] (SP_l_draw K Z) := by
  refine F.ok sc_l_draw (fun vs H Q E h => ?_) (fun cdv A outer s H vs Q E hr h => ?_)
  · obtain ⟨c, k, n, rfl, hk0, hk1, hn, q⟩ := h
    rfl
  · obtain ⟨c, k, n, rfl, hk0, hk1, hn, q⟩ := h
    refine ⟨_, pss_cons (ps_if (pt_cmpR op_eq (pe_op op_mod (pv 0) pe_int) pe_int (nomark _)) (pss_cons (ps_set (i := 3) sc_l_draw.nd rfl (Or.inl rfl) (pe_op op_fdiv (pv 0) pe_int)) (pss_cons (ps_for PassesOwn.never rfl (pi_range1 (by rfl) T.g_range (pa_cons (pv 1) pa_nil)) (pg_name (i := 4) sc_l_draw.nd rfl (Or.inl rfl)) (pss_one (ps_set (i := 3) sc_l_draw.nd rfl (Or.inl rfl) (pe_op op_fdiv (pv 3) pe_int)))) (pss_one (ps_ret (pe_op op_mod (pe_op op_mod (pv 3) pe_int) (pv 2)))))) (pss_nil)) (pss_cons (ps_set (i := 5) sc_l_draw.nd rfl (Or.inl rfl) (pe_op op_mod (pe_op op_add (pe_op op_add (pe_op op_mul (pv 0) pe_int) (pe_op op_mul (pv 1) pe_int)) pe_int) pe_int)) (pss_one (ps_ret (pe_op op_mod (pe_op op_fdiv (pe_op op_mod (pe_op op_mul (pv 5) (pe_op op_add (pv 5) pe_int)) pe_int) pe_int) (pv 2))))), ?_⟩
    walk_at "rd"
    split
    · refine ⟨by omega, by omega, loop_range (iv_draw c k n H) ⟨rfl, _, _, rfl⟩ ?_ ?_⟩
      · rintro i σ H' hi ⟨rfl, r, t, rfl⟩
        walk_at "rd"
        exact ⟨rfl, _, _, rfl⟩
      · rintro σ H' ⟨rfl, r, t, rfl⟩
        walk_at "rd"
        exact ⟨hn, q _ (Int.emod_nonneg _ (by omega)) (Int.emod_lt_of_pos _ hn)⟩
    · refine ⟨.inl ⟨by omega, by omega⟩, hn, q _ (Int.emod_nonneg _ (by omega)) (Int.emod_lt_of_pos _ hn)⟩
def iv_ints (a b : Addr) (H : Hp) (_ : Nat) (σ : St) (H' : Hp) : Prop := H' = H ∧ ∃ t, σ = [some (.ref a), some (.ref b), t]
def SP_l_ints (K : PySem.W.Frag) (Z : Adr) : Sp := fun vs H Q _ => ∃ (a b : Addr) (ns : List Int), vs = [.ref a, .ref b] ∧ H a = some (.lst (ns.map V.int)) ∧ SqL K H b (ns.map V.int) ∧ ns.length ≤ 100000 ∧ Q (.bl true) H
theorem ok_l_ints {f : Addr} {fd : FuncData} (F : Fun K "_law_ints" "_law_ints" s_l_ints f fd) (T : Txt K mg Z) : FnOk P w K mg base CX0 1 f fd ["_law_found", "_law_due"] (SP_l_ints K Z) := by
  refine F.ok sc_l_ints (fun vs H Q E h => ?_) (fun cdv A outer s H vs Q E hr h => ?_)
  · obtain ⟨a, b, ns, rfl, ha, hb, hl, q⟩ := h
    rfl
  · obtain ⟨a, b, ns, rfl, ha, hb, hl, q⟩ := h
    refine ⟨_, pss_cons (ps_if (pw_or (pt_not (pt_val (pe_callB call_isi (by rfl) T.g_isinstance bo_isinstance (pa_cons (pv 0) (pa_cons (pe_bltn (v := .ty "list") (by rfl) T.g_list bo_list rfl) pa_nil))))) (pw_or1 (pt_cmpR op_ne (pe_callB call_len_seq (by rfl) T.g_len bo_len (pa_cons (pv 0) pa_nil)) (pe_callB call_len_seq (by rfl) T.g_len bo_len (pa_cons (pv 1) pa_nil)) (nomark _)))).pt (pss_one (ps_ret pe_bl)) (pss_nil)) (pss_cons (ps_for PassesOwn.never rfl (pi_range1 (by rfl) T.g_range (pa_cons (pe_callB call_len_seq (by rfl) T.g_len bo_len (pa_cons (pv 1) pa_nil)) pa_nil)) (pg_name (i := 2) sc_l_ints.nd rfl (Or.inl rfl)) (pss_one (ps_if (pw_or (pt_not (pt_val (pe_callB call_isi (by rfl) T.g_isinstance bo_isinstance (pa_cons (pe_ix ix_list (pv 0) (pv 2) (fun _ _ => rfl)) (pa_cons (pe_bltn (v := .ty "int") (by rfl) T.g_int bo_int rfl) pa_nil))))) (pw_or (pt_val (pe_callB call_isi (by rfl) T.g_isinstance bo_isinstance (pa_cons (pe_ix ix_list (pv 0) (pv 2) (fun _ _ => rfl)) (pa_cons (pe_bltn (v := .ty "bool") (by rfl) T.g_bool bo_bool rfl) pa_nil)))) (pw_or1 (pt_cmpR op_ne (pe_ix ix_list (pv 0) (pv 2) (fun _ _ => rfl)) (pe_ix ix_list (pv 1) (pv 2) (fun _ _ => rfl)) (nomark _))))).pt (pss_one (ps_ret pe_bl)) (pss_nil)))) (pss_one (ps_ret pe_bl))), ?_⟩
    walk_at "rd"
    refine isi_lst_list ha ?_
    walk_at "rd"
    refine ⟨_, .inl (SqL.of ha), _, .inl hb, ?_⟩
    rw [if_neg (by simp)]
    refine ⟨_, .inl hb, by omega, by rw [List.length_map]; omega, loop_range (iv_ints a b H) ⟨rfl, _, rfl⟩ ?_ ?_⟩
    · rintro i σ H' hi ⟨rfl, t, rfl⟩
      rw [List.length_map] at hi
      have hi' : i < ns.length := by omega
      walk_at "rd"
      refine ⟨_, SqL.of ha, _, by rw [Int.zero_add]; exact atI_int' hi', isi_int_int ?_⟩
      walk_at "rd"
      refine ⟨_, SqL.of ha, _, by rw [Int.zero_add]; exact atI_int' hi', isi_int_bool ?_⟩
      walk_at "rd"
      refine ⟨_, SqL.of ha, _, by rw [Int.zero_add]; exact atI_int' hi', _, hb, _, by rw [Int.zero_add]; exact atI_int' hi', ?_⟩
      walk_at "rd"
      exact ⟨rfl, _, rfl⟩
    · rintro σ H' ⟨rfl, t, rfl⟩
      walk_at "rd"
      exact q
def iv_ls (a l : Addr) (ds : List Int) (H : Hp) (i : Nat) (σ : St) (H' : Hp) : Prop := Same H H' ∧ ∃ (ms : List Int) (t : Option V), σ = [some (.ref a), some (.ref l), t] ∧ H' l = some (.lst (ms.map V.int)) ∧ ms.length ≤ i ∧ ms = ((List.range i).map fun (j : Nat) => (j : Int)).filter fun k => decide (k ∈ ds ∨ whole ds - k ∈ ds)
def SP_l_stops (K : PySem.W.Frag) (Z : Adr) : Sp := fun vs H Q _ => ∃ (a : Addr) (ds : List Int), vs = [.ref a] ∧ SqL K H a (ds.map V.int) ∧ Shaft ds ∧ ∀ (l : Addr) (ms : List Int) (H' : Hp), H l = none → Same H H' → H' l = some (.lst (ms.map V.int)) → ms = ((List.range (whole ds + 1).toNat).map fun (j : Nat) => (j : Int)).filter (fun k => decide (k ∈ ds ∨ whole ds - k ∈ ds)) → 0 < ms.length → ms.length ≤ 501 → Q (.ref l) H'
theorem ok_l_stops {f : Addr} {fd : FuncData} (F : Fun K "_law_stops" "_law_stops" s_l_stops f fd) (T : Txt K mg Z) : FnOk P w K mg base CX0 1 f fd ["_law_depths_here"] (SP_l_stops K Z) := by
  refine F.ok sc_l_stops (fun vs H Q E h => ?_) (fun cdv A outer s H vs Q E hr h => ?_)
  · obtain ⟨a, ds, rfl, hS, hsh, q⟩ := h
    rfl
  · obtain ⟨a, ds, rfl, hS, hsh, q⟩ := h
    refine ⟨_, pss_cons (ps_set (i := 1) sc_l_stops.nd rfl (Or.inl rfl) (pe_lst pa_nil)) (pss_cons (ps_for PassesOwn.never rfl (pi_range1 (by rfl) T.g_range (pa_cons (pe_op op_add (pe_ix ix_list (pv 0) (pe_un un_neg pe_int) (fun _ _ => rfl)) pe_int) pa_nil)) (pg_name (i := 2) sc_l_stops.nd rfl (Or.inl rfl)) (pss_one (ps_if (pw_or (pt_cmpR op_in_seq (pv 2) (pv 0) (by rfl)) (pw_or1 (pt_cmpR op_in_seq (pe_op op_sub (pe_ix ix_list (pv 0) (pe_un un_neg pe_int) (fun _ _ => rfl)) (pv 2)) (pv 0) (by rfl)))).pt (pss_one (ps_expr (pe_bm PySem.F.plainAttrs_list PySem.F.slot_list_append PySem.F.type_list_append mt_append (pv 1) (pa_cons (pv 2) pa_nil)))) (pss_nil)))) (pss_one (ps_ret (pv 1)))), ?_⟩
    have l6 := hsh.l6
    have l2 := hsh.l2
    have w0 := hsh.whole0
    have w5 : whole ds ≤ 500 := by
      obtain ⟨i, hi, e⟩ := mem_getD' hsh.whole_mem
      have := (hsh.get hi).2
      omega
    walk_at "rd"
    refine ⟨by decide, fun l hl => ⟨_, ((Same.refl H).lay hl).seq hS, _, atI_m1 (by omega), ?_⟩⟩
    walk_at "rd"
    refine ⟨by omega, by omega, ?_⟩
    refine loop_range (iv_ls a l ds H) ⟨(Same.refl H).lay hl, [], _, rfl, upd_same, Nat.le_refl _, rfl⟩ ?_ ?_
    · rintro i σ H' hi ⟨s1, ms, t, rfl, hl', hlen, hm⟩
      have stay : ¬ ((i : Int) ∈ ds ∨ whole ds - i ∈ ds) → ∀ t, iv_ls a l ds H (i + 1) [some (.ref a), some (.ref l), t] H' := fun hn t => ⟨s1, ms, _, rfl, hl', by omega, by
        rw [List.range_succ, List.map_append, List.filter_append, ← hm]
        simp only [List.map_cons, List.map_nil]
        rw [List.filter_cons, if_neg (by simpa using hn)]
        simp⟩
      have put : ((i : Int) ∈ ds ∨ whole ds - i ∈ ds) → ∀ t, iv_ls a l ds H (i + 1) [some (.ref a), some (.ref l), t] (upd H' l (.lst (ms.map V.int ++ [V.int i]))) := fun hn t => ⟨s1.rewr hl, ms ++ [(i : Int)], _, rfl, by rw [upd_same, List.map_append]; rfl, by rw [List.length_append]; show _ + 1 ≤ _; omega, by
        rw [List.range_succ, List.map_append, List.filter_append, ← hm]
        simp only [List.map_cons, List.map_nil]
        rw [List.filter_cons, if_pos (by simpa using hn)]
        simp⟩
      walk_at "rd"
      rw [Int.zero_add]
      refine ⟨_, .inl (s1.seq hS), rfl, flat_intL _, ?_⟩
      rw [inV_int]
      walk_at "rd"
      split
      · rename_i h1
        exact ⟨.inl ⟨rfl, _, SqL.of hl'⟩, _, hl', small1000 (by rw [List.length_map]; omega), put (.inl h1) _⟩
      · rename_i h1
        refine ⟨_, s1.seq hS, _, atI_m1 (by omega), ?_⟩
        walk_at "rd"
        refine ⟨_, .inl (s1.seq hS), rfl, flat_intL _, ?_⟩
        rw [inV_int]
        walk_at "rd"
        split
        · rename_i h2
          exact ⟨.inl ⟨rfl, _, SqL.of hl'⟩, _, hl', small1000 (by rw [List.length_map]; omega), put (.inr h2) _⟩
        · rename_i h2
          exact stay (fun z => z.elim h1 h2) _
    · rintro σ H' ⟨s1, ms, t, rfl, hl', hlen, hm⟩
      walk_at "rd"
      refine q l ms H' hl s1 hl' hm ?_ (by omega)
      have : whole ds ∈ ms := by
        rw [hm, List.mem_filter]
        refine ⟨List.mem_map.mpr ⟨(whole ds).toNat, by rw [List.mem_range]; omega, by omega⟩, by simpa using .inl hsh.whole_mem⟩
      exact List.length_pos_of_mem this
def iv_bl (t u : Addr) (x y : List Int) (H : Hp) (i : Nat) (σ : St) (H' : Hp) : Prop := H' = H ∧ (∃ k, σ = [some (.ref t), some (.ref u), k]) ∧ lexB (x.drop i) (y.drop i) = true
theorem lexB_drop {x y : List Int} {i : Nat} (hx : i < x.length) (hy : i < y.length) : lexB (x.drop i) (y.drop i) = if x.getD i 0 = y.getD i 0 then lexB (x.drop (i + 1)) (y.drop (i + 1)) else decide (x.getD i 0 < y.getD i 0) := by
  rw [List.drop_eq_getElem_cons hx, List.drop_eq_getElem_cons hy]
  simp only [lexB, List.getD_eq_getElem?_getD, List.getElem?_eq_getElem hx, List.getElem?_eq_getElem hy, Option.getD_some]
def SP_l_below (K : PySem.W.Frag) (Z : Adr) : Sp := fun vs H Q _ => ∃ (t u : Addr) (x y : List Int), vs = [.ref t, .ref u] ∧ SqT K H t (x.map V.int) ∧ SqT K H u (y.map V.int) ∧ x.length = y.length ∧ x.length ≤ 100 ∧ lexB x y = true ∧ Q (.bl true) H
theorem ok_l_below {f : Addr} {fd : FuncData} (F : Fun K "_law_below" "_law_below" s_l_below f fd) (T : Txt K mg Z) : FnOk P w K mg base CX0 1 f fd ["_law_one", "_law_two"] (SP_l_below K Z) := by
  refine F.ok sc_l_below (fun vs H Q E h => ?_) (fun cdv A outer s H vs Q E hr h => ?_)
  · obtain ⟨t, u, x, y, rfl, hT, hU, hl, hb, hx, q⟩ := h
    rfl
  · obtain ⟨t, u, x, y, rfl, hT, hU, hl, hb, hx, q⟩ := h
    refine ⟨_, pss_cons (ps_for PassesOwn.never rfl (pi_range1 (by rfl) T.g_range (pa_cons (pe_callB call_len_seq (by rfl) T.g_len bo_len (pa_cons (pv 0) pa_nil)) pa_nil)) (pg_name (i := 2) sc_l_below.nd rfl (Or.inl rfl)) (pss_one (ps_if (pt_cmpR op_ne (pe_ix ix_tup (pv 0) (pv 2) (fun _ _ => rfl)) (pe_ix ix_tup (pv 1) (pv 2) (fun _ _ => rfl)) (nomark _)) (pss_one (ps_ret (pe_cmpR op_lt (pe_ix ix_tup (pv 0) (pv 2) (fun _ _ => rfl)) (pe_ix ix_tup (pv 1) (pv 2) (fun _ _ => rfl)) (nomark _)))) (pss_nil)))) (pss_one (ps_ret pe_bl)), ?_⟩
    walk_at "rd"
    refine ⟨_, .inr hT, by omega, by rw [List.length_map]; omega, ?_⟩
    refine loop_range (iv_bl t u x y H) ⟨rfl, ⟨_, rfl⟩, hx⟩ ?_ ?_
    · rintro i σ H' hi ⟨rfl, ⟨k, rfl⟩, hd⟩
      rw [List.length_map] at hi
      have h1 : i < x.length := by omega
      rw [lexB_drop h1 (by omega)] at hd
      walk_at "rd"
      refine ⟨_, hT, _, by rw [Int.zero_add]; exact atI_int' h1, _, hU, _, by rw [Int.zero_add]; exact atI_int' (by omega), ?_⟩
      walk_at "rd"
      split
      · rename_i e
        rw [if_neg e] at hd
        refine ⟨_, hT, _, by rw [Int.zero_add]; exact atI_int' h1, _, hU, _, by rw [Int.zero_add]; exact atI_int' (by omega), ?_⟩
        walk_at "rd"
        rw [hd]
        exact q
      · rename_i e
        rw [if_pos (by simpa using e)] at hd
        exact ⟨rfl, ⟨_, rfl⟩, hd⟩
    · rintro σ H' ⟨rfl, ⟨k, rfl⟩, hd⟩
      rw [List.length_map, Int.toNat_natCast, List.drop_of_length_le (Nat.le_refl _)] at hd
      cases hd
def SP_other_place (K : PySem.W.Frag) (Z : Adr) : Sp := fun vs H Q _ => ∃ (a : Addr) (ds : List Int) (p : Int), vs = [.ref a, .int p] ∧ SqL K H a (ds.map V.int) ∧ 0 < ds.length ∧ Q (.int (whole ds - p)) H
theorem ok_other_place {f : Addr} {fd : FuncData} (F : Fun K "other_place" "other_place" s_other_place f fd) (T : Txt K mg Z) {f_drum_whole : Addr} {fd_drum_whole : FuncData} (D_drum_whole : Def K mg "drum_whole" s_drum_whole ["depths"] f_drum_whole fd_drum_whole) (G_drum_whole : FnOk P w K mg base CX0 1 f_drum_whole fd_drum_whole ["depths"] (SP_drum_whole K Z)) : FnOk P w K mg base CX0 2 f fd ["depths", "place"] (SP_other_place K Z) := by
  refine F.ok sc_other_place (fun vs H Q E h => ?_) (fun cdv A outer s H vs Q E hr h => ?_)
  · obtain ⟨a, ds, p, rfl, hS, hl, q⟩ := h
    rfl
  · obtain ⟨a, ds, p, rfl, hS, hl, q⟩ := h
    refine ⟨_, pss_one (ps_ret (pe_op op_sub (pe_call G_drum_whole (hr.mono (by decide)) (by rfl) D_drum_whole.m D_drum_whole.F.kp D_drum_whole.b .nil pass0 (pa_cons (pv 0) pa_nil)) (pv 1))), ?_⟩
    walk_at "rd"
    refine ⟨a, ds, rfl, hS, hl, ?_⟩
    walk_at "rd"
    exact q
def iv_depths (c r0 sh : Int) (l : Addr) (H : Hp) (i : Nat) (σ : St) (H' : Hp) : Prop := ∃ (ds : List Int) (last : Int) (t u : Option V), σ = [some (.int c), some (.int (2 + r0)), some (.int sh), none, some (.ref l), some (.int last), t, u] ∧ Rising ds last ∧ last ≤ 500 - (2 + r0) + i ∧ ds.length = i ∧ H' = upd H l (.lst (ds.map V.int))
def SP_l_depths (K : PySem.W.Frag) (Z : Adr) : Sp := fun vs H Q _ => ∃ (c : Int), vs = [.int c] ∧ ∀ (l : Addr) (ds : List Int) (H' : Hp), H l = none → Same H H' → H' l = some (.lst (ds.map V.int)) → Shaft ds → Q (.ref l) H'
theorem ok_l_depths {f : Addr} {fd : FuncData} (F : Fun K "_law_depths" "_law_depths" s_l_depths f fd) (T : Txt K mg Z) {f_l_draw : Addr} {fd_l_draw : FuncData} (D_l_draw : Def K mg "_law_draw" s_l_draw ["_law_cell", "_law_k", "_law_span"] f_l_draw fd_l_draw) (G_l_draw : FnOk P w K mg base CX0 1 f_l_draw fd_l_draw ["_law_cell", "_law_k", "_law_span"] (SP_l_draw K Z)) : FnOk P w K mg base CX0 2 f fd ["_law_cell"] (SP_l_depths K Z) := by
  refine F.ok sc_l_depths (fun vs H Q E h => ?_) (fun cdv A outer s H vs Q E hr h => ?_)
  · obtain ⟨c, rfl, q⟩ := h
    rfl
  · obtain ⟨c, rfl, q⟩ := h
    refine ⟨_, pss_cons (ps_set (i := 1) sc_l_depths.nd rfl (Or.inl rfl) (pe_op op_add pe_int (pe_call G_l_draw (hr.mono (by decide)) (by rfl) D_l_draw.m D_l_draw.F.kp D_l_draw.b .nil pass0 (pa_cons (pv 0) (pa_cons pe_int (pa_cons pe_int pa_nil)))))) (pss_cons (ps_set (i := 2) sc_l_depths.nd rfl (Or.inl rfl) (pe_call G_l_draw (hr.mono (by decide)) (by rfl) D_l_draw.m D_l_draw.F.kp D_l_draw.b .nil pass0 (pa_cons (pv 0) (pa_cons pe_int (pa_cons pe_int pa_nil))))) (pss_cons (ps_if (pt_cmpR op_eq (pv 2) pe_int (nomark _)) (pss_cons (ps_set (i := 3) sc_l_depths.nd rfl (Or.inr rfl) (pe_op op_add pe_int (pe_call G_l_draw (hr.mono (by decide)) (by rfl) D_l_draw.m D_l_draw.F.kp D_l_draw.b .nil pass0 (pa_cons (pv 0) (pa_cons pe_int (pa_cons pe_int pa_nil)))))) (pss_one (ps_ret (pe_lc ["_law_k", "_law_gap"] [none, some 3] (pi_range1 (by rfl) T.g_range (pa_cons (pv 1) pa_nil)) (fun _ _ _ _ => (pg_name (i := 0) (show (["_law_k", "_law_gap"] : List Str).Nodup by decide +kernel) rfl (Or.inl rfl))) (fun _ _ _ _ => pif_nil) (fun _ _ _ _ => (pe_op op_mul (pv 1) (pv 0))))))) (pss_nil)) (pss_cons (ps_set (i := 4) sc_l_depths.nd rfl (Or.inl rfl) (pe_lst pa_nil)) (pss_cons (ps_set (i := 5) sc_l_depths.nd rfl (Or.inl rfl) (pe_un un_neg pe_int)) (pss_cons (ps_for PassesOwn.never rfl (pi_range1 (by rfl) T.g_range (pa_cons (pv 1) pa_nil)) (pg_name (i := 6) sc_l_depths.nd rfl (Or.inl rfl)) (pss_cons (ps_set (i := 7) sc_l_depths.nd rfl (Or.inl rfl) (pe_op op_sub (pe_op op_add (pe_op op_sub pe_int (pv 1)) (pv 6)) (pv 5))) (pss_cons (ps_if (pt_cmpR op_eq (pv 2) pe_int (nomark _)) (pss_one (ps_set (i := 7) sc_l_depths.nd rfl (Or.inl rfl) (pe_callB (call_min2 rfl) (by rfl) T.g_min bo_min (pa_cons (pv 7) (pa_cons pe_int pa_nil))))) (pss_nil)) (pss_cons (ps_set (i := 5) sc_l_depths.nd rfl (Or.inl rfl) (pe_op op_add (pe_op op_add (pv 5) pe_int) (pe_call G_l_draw (hr.mono (by decide)) (by rfl) D_l_draw.m D_l_draw.F.kp D_l_draw.b .nil pass0 (pa_cons (pv 0) (pa_cons (pe_op op_add pe_int (pv 6)) (pa_cons (pv 7) pa_nil)))))) (pss_one (ps_expr (pe_bm PySem.F.plainAttrs_list PySem.F.slot_list_append PySem.F.type_list_append mt_append (pv 4) (pa_cons (pv 5) pa_nil)))))))) (pss_cons (ps_if (pw_and (pt_cmpR op_eq (pv 2) pe_int (nomark _)) (pw_and1 (pt_cmpR op_eq (pe_call G_l_draw (hr.mono (by decide)) (by rfl) D_l_draw.m D_l_draw.F.kp D_l_draw.b .nil pass0 (pa_cons (pv 0) (pa_cons pe_int (pa_cons pe_int pa_nil)))) pe_int (nomark _)))).pt (pss_one (ps_ret (pe_op op_cat (pe_op op_cat (pe_lst (pa_cons pe_int pa_nil)) (pe_slice sl_list (pv 4) (po_some pe_int) (po_some (pe_un un_neg pe_int)))) (pe_lst (pa_cons pe_int pa_nil))))) (pss_nil)) (pss_one (ps_ret (pv 4))))))))), ?_⟩
    walk_at "rd"
    refine ⟨c, 0, 5, rfl, by omega, by omega, by omega, fun r0 h0 h0' => ?_⟩
    walk_at "rd"
    refine ⟨c, 1, 4, rfl, by omega, by omega, by omega, fun sh h1 h1' => ?_⟩
    walk_at "rd"
    split
    · refine ⟨c, 2, 100, rfl, by omega, by omega, by omega, fun r2 h2 h2' => ?_⟩
      walk_at "rd"
      refine ⟨by omega, by omega, cj_range_map (fun i => V.int ((1 + r2) * (i : Int))) (Nat.le_trans (by omega : (2 + r0).toNat ≤ 1000) (by decide)) rfl (fun i hi N q => ?_) (fun p hp => ?_)⟩
      · walk_at "rd"
        rw [Int.zero_add]
        exact ⟨.inl ⟨by omega, by omega⟩, q⟩
      · refine q p ((List.range (2 + r0).toNat).map fun (i : Nat) => (1 + r2) * (i : Int)) _ hp (fun b o e => ?_) ?_ (Shaft.even (by omega) (by omega) (by omega) (by omega))
        · rw [upd_ne (ne_of_none e hp)]; exact e
        · rw [upd_same, List.map_map]; rfl
    · refine ⟨by decide, fun l hln => ⟨by omega, by omega, loop_range (iv_depths c r0 sh l H) ⟨[], -1, _, _, rfl, Rising.nil, by omega, rfl, rfl⟩ ?_ ?_⟩⟩
      · rintro i σ H' hi ⟨ds, last, t, u, rfl, hR, hla, hlen, rfl⟩
        have l0 := hR.l0
        walk_at "rd"
        split
        all_goals
          refine ⟨c, _, _, rfl, by omega, by omega, by (try split) <;> omega, fun r hr0 hr1 => ?_⟩
          walk_at "rd"
          refine ⟨.inl ⟨rfl, _, SqL.of upd_same⟩, _, upd_same, small1000 (by rw [List.length_map]; omega), ds ++ [last + 1 + r], last + 1 + r, _, _, rfl, hR.snoc hr0, ?_, by rw [List.length_append, hlen]; rfl, ?_⟩
          · (try split at hr1) <;> omega
          · rw [upd_upd, List.map_append]; rfl
      · rintro σ H' ⟨ds, last, t, u, rfl, hR, hla, hlen, rfl⟩
        have hsh := hR.shaft (by omega) (by omega) (by omega)
        have hQ0 : Q (V.ref l) (upd H l (HO.lst (List.map V.int ds))) := q l ds _ hln ((Same.refl H).lay hln) upd_same hsh
        walk_at "rd"
        split
        · refine ⟨c, 8, 4, rfl, by omega, by omega, by omega, fun r hr0 hr1 => ?_⟩
          walk_at "rd"
          split
          · refine ⟨by decide, fun p1 hp1 => ⟨_, SqL.of (upo upd_same hp1), fun p2 hp2 => ⟨_, upo upd_same hp2, _, upd_same, ?_, fun p3 hp3 => ⟨by decide, fun p4 hp4 => ⟨_, upo upd_same hp4, _, upd_same, ?_, fun p5 hp5 => ?_⟩⟩⟩⟩⟩
            · have := cutV_length (List.map V.int ds) (some 1) (some (-1))
              rw [List.length_map] at this
              exact Nat.le_of_lt (small1000 (by rw [List.length_singleton]; omega))
            · have := cutV_length (List.map V.int ds) (some 1) (some (-1))
              rw [List.length_map] at this
              exact Nat.le_of_lt (small1000 (by rw [List.length_append, List.length_singleton, List.length_singleton]; omega))
            · refine q p5 ([0] ++ (ds.drop 1).take (ds.length - 1 - 1) ++ [500]) _ (upn (upn (upn (upn (upn hp5))))) ((((((Same.refl H).lay hln).lay hp1).lay hp2).lay hp3).lay hp4 |>.lay hp5) ?_ hsh.ends
              rw [upd_same, cut_ends ds hsh.l2, List.map_append, List.map_append]
              rfl
          · exact hQ0
        · exact hQ0
def SP_l_many (K : PySem.W.Frag) (Z : Adr) : Sp := fun vs H Q _ => ∃ (c L : Int), vs = [.int c, .int L] ∧ ∀ r : Int, 0 ≤ r → r < 4 → Q (.int r) H
theorem ok_l_many {f : Addr} {fd : FuncData} (F : Fun K "_law_many" "_law_many" s_l_many f fd) (T : Txt K mg Z) {f_l_draw : Addr} {fd_l_draw : FuncData} (D_l_draw : Def K mg "_law_draw" s_l_draw ["_law_cell", "_law_k", "_law_span"] f_l_draw fd_l_draw) (G_l_draw : FnOk P w K mg base CX0 1 f_l_draw fd_l_draw ["_law_cell", "_law_k", "_law_span"] (SP_l_draw K Z)) : FnOk P w K mg base CX0 2 f fd ["_law_cell", "_law_levels"] (SP_l_many K Z) := by
  refine F.ok sc_l_many (fun vs H Q E h => ?_) (fun cdv A outer s H vs Q E hr h => ?_)
  · obtain ⟨c, L, rfl, q⟩ := h
    rfl
  · obtain ⟨c, L, rfl, q⟩ := h
    refine ⟨_, pss_cons (ps_set (i := 2) sc_l_many.nd rfl (Or.inl rfl) (pe_call G_l_draw (hr.mono (by decide)) (by rfl) D_l_draw.m D_l_draw.F.kp D_l_draw.b .nil pass0 (pa_cons (pv 0) (pa_cons pe_int (pa_cons pe_int pa_nil))))) (pss_cons (ps_if (pw_and (pt_cmpR op_eq (pv 2) pe_int (nomark _)) (pw_and (pt_cmpR op_gt (pv 1) pe_int (nomark _)) (pw_and1 (pt_cmpR op_gt (pe_call G_l_draw (hr.mono (by decide)) (by rfl) D_l_draw.m D_l_draw.F.kp D_l_draw.b .nil pass0 (pa_cons (pv 0) (pa_cons pe_int (pa_cons pe_int pa_nil)))) pe_int (nomark _))))).pt (pss_one (ps_ret pe_int)) (pss_nil)) (pss_one (ps_ret (pv 2)))), ?_⟩
    walk_at "rd"
    refine ⟨c, 0, 4, rfl, by omega, by omega, by omega, fun r h0 h1 => ?_⟩
    walk_at "rd"
    split
    · split
      · refine ⟨c, 1, 3, rfl, by omega, by omega, by omega, fun r2 h2 h3 => ?_⟩
        walk_at "rd"
        split
        · exact q 2 (by omega) (by omega)
        · exact q r h0 h1
      · exact q r h0 h1
    · exact q r h0 h1
def iv_n (t : Addr) (n L : Int) (pl : Addr) (H : Hp) (_ : Nat) (σ : St) (H' : Hp) : Prop := H' = H ∧ ∃ u, σ = [some (.ref t), some (.int n), some (.int L), some (.ref pl), u, none]
def iv_k (t : Addr) (n L : Int) (pl : Addr) (u : Option V) (H : Hp) (_ : Nat) (σ : St) (H' : Hp) : Prop := Same H H' ∧ ∃ v, σ = [some (.ref t), some (.int n), some (.int L), some (.ref pl), u, v]
theorem cut_mid (p : Int) (r : List Int) (k : Nat) (h : k ≤ r.length) : cutV ((p :: r).map V.int) (some 1) (some ((k + 1 : Nat) : Int)) = (r.take k).map V.int ∧ ¬ (HT.sIx ((p :: r).map V.int).length 0 (some 1) = 0 ∧ HT.sIx ((p :: r).map V.int).length ((p :: r).map V.int).length (some ((k + 1 : Nat) : Int)) = ((p :: r).map V.int).length) := by
  have e1 : HT.sIx ((p :: r).map V.int).length 0 (some 1) = 1 := by
    rw [show (1 : Int) = ((1 : Nat) : Int) from rfl, HT.sIx_nat, List.length_map, List.length_cons]; omega
  refine ⟨?_, fun z => by rw [e1] at z; exact absurd z.1 (by decide)⟩
  unfold cutV
  rw [e1, HT.sIx_nat, List.length_map, List.length_cons, show min (k + 1) (r.length + 1) - 1 = k by omega]
  show ((r.map V.int).take k) = _
  rw [List.map_take]
theorem at_row {p : Int} {r : List Int} {k : Nat} (h : k < r.length) : atI ((p :: r).map V.int) (1 + (k : Int)) = some (.int (r.getD k 0)) := by
  have := atI_int (ns := p :: r) (k := 1 + (k : Int)) (by omega) (by rw [List.length_cons]; omega)
  rw [this, show (1 + (k : Int)).toNat = k + 1 by omega]
  rfl
def SP_l_is_stand (K : PySem.W.Frag) (Z : Adr) : Sp := fun vs H Q _ => ∃ (t pl : Addr) (p : Int) (r ps : List Int) (n L : Nat), vs = [.ref t, .int n, .int L, .ref pl] ∧ SqT K H t ((p :: r).map V.int) ∧ SqL K H pl (ps.map V.int) ∧ RowOk L n r ∧ n ≤ 3 ∧ L ≤ 6 ∧ p ∈ ps ∧ ∀ H', Same H H' → Q (.bl true) H'
theorem ok_l_is_stand {f : Addr} {fd : FuncData} (F : Fun K "_law_is_stand" "_law_is_stand" s_l_is_stand f fd) (T : Txt K mg Z) {f_l_whole : Addr} {fd_l_whole : FuncData} (D_l_whole : Def K mg "_law_whole" s_l_whole ["_law_found"] f_l_whole fd_l_whole) (G_l_whole : FnOk P w K mg base CX0 1 f_l_whole fd_l_whole ["_law_found"] (SP_l_whole K Z)) : FnOk P w K mg base CX0 2 f fd ["_law_found", "_law_many_here", "_law_levels", "_law_places"] (SP_l_is_stand K Z) := by
  refine F.ok sc_l_is_stand (fun vs H Q E h => ?_) (fun cdv A outer s H vs Q E hr h => ?_)
  · obtain ⟨t, pl, p, r, ps, n, L, rfl, hT, hP, hro, n3, L6, hp, q⟩ := h
    rfl
  · obtain ⟨t, pl, p, r, ps, n, L, rfl, hT, hP, hro, n3, L6, hp, q⟩ := h
    refine ⟨_, pss_cons (ps_if (pw_or (pt_not (pt_val (pe_callB call_isiX (by rfl) T.g_isinstance bo_isinstance (pa_cons (pv 0) (pa_cons (pe_bltn (v := .ty "tuple") (by rfl) T.g_tuple bo_tuple rfl) pa_nil))))) (pw_or1 (pt_cmpR op_ne (pe_callB call_len_seq (by rfl) T.g_len bo_len (pa_cons (pv 0) pa_nil)) (pe_op op_add (pv 1) pe_int) (nomark _)))).pt (pss_one (ps_ret pe_bl)) (pss_nil)) (pss_cons (ps_for PassesOwn.never rfl (pi_tup (pv 0)) (pg_name (i := 4) sc_l_is_stand.nd rfl (Or.inl rfl)) (pss_one (ps_if (pt_not (pt_val (pe_call G_l_whole (hr.mono (by decide)) (by rfl) D_l_whole.m D_l_whole.F.kp D_l_whole.b .nil pass0 (pa_cons (pv 4) pa_nil)))) (pss_one (ps_ret pe_bl)) (pss_nil)))) (pss_cons (ps_for PassesOwn.never rfl (pi_range2 (by rfl) T.g_range (pa_cons pe_int (pa_cons (pe_op op_add (pv 1) pe_int) pa_nil))) (pg_name (i := 5) sc_l_is_stand.nd rfl (Or.inl rfl)) (pss_cons (ps_if (pw_and (pt_cmpR op_notIn_rng (pe_ix ix_tup (pv 0) (pv 5) (fun _ _ => rfl)) (pe_callTy call_rangeV (by rfl) T.g_range bo_range (pa_cons (pv 2) pa_nil)) (by rfl)) (pw_and (pt_cmpR op_ne (pe_ix ix_tup (pv 0) (pv 5) (fun _ _ => rfl)) pe_int (nomark _)) (pw_and1 (pt_cmpR op_ne (pe_ix ix_tup (pv 0) (pv 5) (fun _ _ => rfl)) pe_int (nomark _))))).pt (pss_one (ps_ret pe_bl)) (pss_nil)) (pss_one (ps_if (pw_and (pt_cmpR op_ge (pe_ix ix_tup (pv 0) (pv 5) (fun _ _ => rfl)) pe_int (nomark _)) (pw_and1 (pt_cmpR op_in_seq (pe_ix ix_tup (pv 0) (pv 5) (fun _ _ => rfl)) (pe_slice sl_tup (pv 0) (po_some pe_int) (po_some (pv 5))) (by rfl)))).pt (pss_one (ps_ret pe_bl)) (pss_nil))))) (pss_one (ps_ret (pe_cmpR op_in_seq (pe_ix ix_tup (pv 0) pe_int (fun _ _ => rfl)) (pv 3) (by rfl)))))), ?_⟩
    have hrl := hro.len
    walk_at "rd"
    refine ⟨_, "tuple", "tuple", rfl, .inr (.inr ⟨t, _, rfl, hT, rfl⟩), by decide, ?_⟩
    rw [show subB "tuple" "tuple" = true from rfl]
    walk_at "rd"
    refine ⟨_, .inr hT, ?_⟩
    rw [if_neg (by rw [List.length_map, List.length_cons]; omega)]
    refine ⟨⟨_, hT⟩, ?_⟩
    refine loop_tup ((p :: r).map V.int) (iv_n t n L pl H) ⟨rfl, _, rfl⟩ (fun i σ H' _ ⟨e, _⟩ => by rw [e]; exact hT) ?_ ?_
    · rintro i x σ H' hx ⟨rfl, u, rfl⟩
      obtain ⟨z, rfl, _⟩ := map_int_some hx
      walk_at "rd"
      refine ⟨_, rfl, ?_⟩
      walk_at "rd"
      exact ⟨rfl, _, rfl⟩
    · rintro σ H' ⟨rfl, u, rfl⟩
      walk_at "rd"
      refine ⟨by omega, by omega, ?_⟩
      refine loop_range (iv_k t n L pl u H') ⟨Same.refl _, _, rfl⟩ ?_ ?_
      · rintro i σ H1 hi ⟨s1, v, rfl⟩
        have hin : i < n := by omega
        obtain ⟨hv, hd⟩ := hro.ok i hin
        have eat := at_row (p := p) (r := r) (k := i) (by omega)
        obtain ⟨c1, n1⟩ := cut_mid p r i (by omega)
        rw [show ((i + 1 : Nat) : Int) = 1 + (i : Int) by push_cast; omega] at c1 n1
        walk_at "rd"
        refine ⟨_, s1.tup hT, _, eat, fun pr hpr => ⟨pr, 0, L, _, rfl, rfl, upd_same, ?_⟩⟩
        have s2 := s1.lay (o := HO.rng 0 L) hpr
        split
        · rename_i h1
          refine ⟨_, s2.tup hT, _, eat, rfl, ?_⟩
          split
          · rename_i h2
            refine ⟨_, s2.tup hT, _, eat, rfl, ?_⟩
            rw [if_neg (fun z => by
              have h2' : r.getD i 0 ≠ 10 := fun e => h2 (congrArg V.int e)
              have z' : r.getD i 0 ≠ 11 := fun e => z (congrArg V.int e)
              omega)]
            refine ⟨_, s2.tup hT, _, eat, _, rfl, ?_⟩
            split
            · rename_i h10
              refine ⟨_, s2.tup hT, _, eat, _, s2.tup hT, n1, ?_⟩
              rw [c1]
              refine fun p1 hp1 => ⟨_, .inr (SqT.of upd_same), rfl, flat_intL _, ?_⟩
              rw [inV_int, if_neg (by simpa using hd h10)]
              exact ⟨s2.lay hp1, _, rfl⟩
            · exact ⟨s2, _, rfl⟩
          · rename_i h2
            refine ⟨_, s2.tup hT, _, eat, _, rfl, ?_⟩
            split
            · rename_i h10
              refine ⟨_, s2.tup hT, _, eat, _, s2.tup hT, n1, ?_⟩
              rw [c1]
              refine fun p1 hp1 => ⟨_, .inr (SqT.of upd_same), rfl, flat_intL _, ?_⟩
              rw [inV_int, if_neg (by simpa using hd h10)]
              exact ⟨s2.lay hp1, _, rfl⟩
            · exact ⟨s2, _, rfl⟩
        · rename_i h1
          refine ⟨_, s2.tup hT, _, eat, _, rfl, ?_⟩
          split
          · rename_i h10
            refine ⟨_, s2.tup hT, _, eat, _, s2.tup hT, n1, ?_⟩
            rw [c1]
            refine fun p1 hp1 => ⟨_, .inr (SqT.of upd_same), rfl, flat_intL _, ?_⟩
            rw [inV_int, if_neg (by simpa using hd h10)]
            exact ⟨s2.lay hp1, _, rfl⟩
          · exact ⟨s2, _, rfl⟩
      · rintro σ H1 ⟨s1, v, rfl⟩
        walk_at "rd"
        refine ⟨_, s1.tup hT, _, (show atI ((p :: r).map V.int) ((0 : Nat) : Int) = some (.int p) from atI_of rfl), _, .inl (s1.seq hP), rfl, flat_intL _, ?_⟩
        rw [inV_int, show decide (p ∈ ps) = true by simpa using hp]
        exact q _ s1
def SP_wound_place (K : PySem.W.Frag) (Z : Adr) : Sp := fun vs H Q _ => ∃ (a : Addr) (ds : List Int) (c lv : Int), vs = [.ref a, .int c, .int lv] ∧ SqL K H a (ds.map V.int) ∧ 0 ≤ lv ∧ lv < ds.length ∧ Q (.int (if c = 0 then ds.getD lv.toNat 0 else whole ds - ds.getD lv.toNat 0)) H
theorem ok_wound_place {f : Addr} {fd : FuncData} (F : Fun K "wound_place" "wound_place" s_wound_place f fd) (T : Txt K mg Z) {f_other_place : Addr} {fd_other_place : FuncData} (D_other_place : Def K mg "other_place" s_other_place ["depths", "place"] f_other_place fd_other_place) (G_other_place : FnOk P w K mg base CX0 2 f_other_place fd_other_place ["depths", "place"] (SP_other_place K Z)) : FnOk P w K mg base CX0 3 f fd ["depths", "cage", "level"] (SP_wound_place K Z) := by
  refine F.ok sc_wound_place (fun vs H Q E h => ?_) (fun cdv A outer s H vs Q E hr h => ?_)
  · obtain ⟨a, ds, c, lv, rfl, hS, h0, h1, q⟩ := h
    rfl
  · obtain ⟨a, ds, c, lv, rfl, hS, h0, h1, q⟩ := h
    refine ⟨_, pss_cons (ps_if (pt_cmpR op_eq (pv 1) pe_int (nomark _)) (pss_one (ps_ret (pe_ix ix_list (pv 0) (pv 2) (fun _ _ => rfl)))) (pss_nil)) (pss_one (ps_ret (pe_call G_other_place (hr.mono (by decide)) (by rfl) D_other_place.m D_other_place.F.kp D_other_place.b .nil pass0 (pa_cons (pv 0) (pa_cons (pe_ix ix_list (pv 0) (pv 2) (fun _ _ => rfl)) pa_nil))))), ?_⟩
    walk_at "rd"
    split
    · rename_i hc
      rw [if_pos hc] at q
      exact ⟨_, hS, _, atI_int h0 h1, q⟩
    · rename_i hc
      rw [if_neg hc] at q
      refine ⟨_, hS, _, atI_int h0 h1, ?_⟩
      walk_at "rd"
      exact ⟨a, ds, _, rfl, hS, by omega, q⟩
def iv_stops (a l : Addr) (ds : List Int) (H : Hp) (i : Nat) (σ : St) (H' : Hp) : Prop := Same H H' ∧ ∃ (ps : List Int) (t : Option V), σ = [some (.ref a), some (.ref l), t] ∧ H' l = some (.lst (ps.map V.int)) ∧ ps.length = 2 * i ∧ ∀ k, k ∈ ps ↔ ∃ j, j < i ∧ (k = ds.getD j 0 ∨ k = whole ds - ds.getD j 0)
theorem stops_mem {ds : List Int} {k : Int} : (∃ j, j < ds.length ∧ (k = ds.getD j 0 ∨ k = whole ds - ds.getD j 0)) ↔ (k ∈ ds ∨ whole ds - k ∈ ds) := by
  have hg : ∀ j (hj : j < ds.length), ds.getD j 0 = ds[j] := fun j hj => by rw [List.getD_eq_getElem?_getD, List.getElem?_eq_getElem hj]; rfl
  constructor
  · rintro ⟨j, hj, e | e⟩
    · rw [hg j hj] at e
      exact .inl (e ▸ List.getElem_mem hj)
    · refine .inr ?_
      rw [show whole ds - k = ds[j] by rw [← hg j hj]; omega]
      exact List.getElem_mem hj
  · rintro (h | h)
    · obtain ⟨j, hj, e⟩ := List.getElem_of_mem h
      exact ⟨j, hj, .inl (by rw [hg j hj]; exact e.symm)⟩
    · obtain ⟨j, hj, e⟩ := List.getElem_of_mem h
      exact ⟨j, hj, .inr (by rw [hg j hj, e]; omega)⟩
def SP_all_stops (K : PySem.W.Frag) (Z : Adr) : Sp := fun vs H Q _ => ∃ (a : Addr) (ds : List Int), vs = [.ref a] ∧ SqL K H a (ds.map V.int) ∧ 0 < ds.length ∧ ds.length ≤ 30 ∧ ∀ (l : Addr) (ms : List Int) (H' : Hp), H l = none → Same H H' → H' l = some (.lst (ms.map V.int)) → ms.Pairwise (· < ·) → (∀ k, k ∈ ms ↔ k ∈ ds ∨ whole ds - k ∈ ds) → Q (.ref l) H'
theorem ok_all_stops {f : Addr} {fd : FuncData} (F : Fun K "all_stops" "all_stops" s_all_stops f fd) (T : Txt K mg Z) {f_wound_place : Addr} {fd_wound_place : FuncData} (D_wound_place : Def K mg "wound_place" s_wound_place ["depths", "cage", "level"] f_wound_place fd_wound_place) (G_wound_place : FnOk P w K mg base CX0 3 f_wound_place fd_wound_place ["depths", "cage", "level"] (SP_wound_place K Z)) : FnOk P w K mg base CX0 4 f fd ["depths"] (SP_all_stops K Z) := by
  refine F.ok sc_all_stops (fun vs H Q E h => ?_) (fun cdv A outer s H vs Q E hr h => ?_)
  · obtain ⟨a, ds, rfl, hS, h0, h6, q⟩ := h
    rfl
  · obtain ⟨a, ds, rfl, hS, h0, h6, q⟩ := h
    refine ⟨_, pss_cons (ps_set (i := 1) sc_all_stops.nd rfl (Or.inl rfl) (pe_lst pa_nil)) (pss_cons (ps_for PassesOwn.never rfl (pi_range1 (by rfl) T.g_range (pa_cons (pe_callB call_len_seq (by rfl) T.g_len bo_len (pa_cons (pv 0) pa_nil)) pa_nil)) (pg_name (i := 2) sc_all_stops.nd rfl (Or.inl rfl)) (pss_cons (ps_expr (pe_bm PySem.F.plainAttrs_list PySem.F.slot_list_append PySem.F.type_list_append mt_append (pv 1) (pa_cons (pe_call G_wound_place (hr.mono (by decide)) (by rfl) D_wound_place.m D_wound_place.F.kp D_wound_place.b .nil pass0 (pa_cons (pv 0) (pa_cons pe_int (pa_cons (pv 2) pa_nil)))) pa_nil))) (pss_one (ps_expr (pe_bm PySem.F.plainAttrs_list PySem.F.slot_list_append PySem.F.type_list_append mt_append (pv 1) (pa_cons (pe_call G_wound_place (hr.mono (by decide)) (by rfl) D_wound_place.m D_wound_place.F.kp D_wound_place.b .nil pass0 (pa_cons (pv 0) (pa_cons pe_int (pa_cons (pv 2) pa_nil)))) pa_nil)))))) (pss_one (ps_ret (pe_sortset rfl (by rfl) T.g_sorted bo_sorted (by rfl) T.g_set bo_set (pv 1))))), ?_⟩
    walk_at "rd"
    refine ⟨by decide, fun l hl => ⟨_, .inl (((Same.refl H).lay hl).seq hS), by omega, by rw [List.length_map]; omega, ?_⟩⟩
    refine loop_range (iv_stops a l ds H) ⟨(Same.refl H).lay hl, [], _, rfl, upd_same, rfl, fun k => by simp⟩ ?_ ?_
    · rintro i σ H' hi ⟨s1, ps, t, rfl, hl', hlen, hm⟩
      rw [List.length_map] at hi
      walk_at "rd"
      refine ⟨.inl ⟨rfl, _, SqL.of hl'⟩, a, ds, 0, 0 + ↑i, rfl, s1.seq hS, by omega, by omega, ?_⟩
      walk_at "rd"
      refine ⟨_, hl', small1000 (by rw [List.length_map]; omega), .inl ⟨rfl, _, SqL.of upd_same⟩, a, ds, 1, 0 + ↑i, rfl, (s1.rewr hl).seq hS, by omega, by omega, ?_⟩
      walk_at "rd"
      refine ⟨_, upd_same, small1000 (by rw [List.length_append, List.length_map, List.length_singleton]; omega), ?_⟩
      have e0 : (0 + (i : Int)).toNat = i := by omega
      rw [e0]
      refine ⟨(s1.rewr hl).rewr hl, ps ++ [ds.getD i 0] ++ [whole ds - ds.getD i 0], _, rfl, ?_, by simp only [List.length_append, List.length_singleton]; omega, fun k => ?_⟩
      · rw [upd_same, List.map_append, List.map_append]
        rfl
      · rw [List.mem_append, List.mem_append, hm, List.mem_singleton, List.mem_singleton]
        constructor
        · rintro ((⟨j, hj, e⟩ | e) | e)
          · exact ⟨j, by omega, e⟩
          · exact ⟨i, by omega, .inl e⟩
          · exact ⟨i, by omega, .inr e⟩
        · rintro ⟨j, hj, e⟩
          by_cases hji : j = i
          · subst hji
            rcases e with e | e
            · exact .inl (.inr e)
            · exact .inr e
          · exact .inl (.inl ⟨j, by omega, e⟩)
    · rintro σ H' ⟨s1, ps, t, rfl, hl', hlen, hm⟩
      rw [List.length_map] at hlen hm
      walk_at "rd"
      refine ⟨ps, SqL.of hl', by omega, fun l2 ms hl2 hp hmm => ?_⟩
      exact q l2 ms _ (s1.free hl2) (s1.lay hl2) upd_same hp fun k => by rw [hmm, hm, Int.toNat_natCast, stops_mem]
def standsF (ms : List Int) (rs : List (List Int)) : List (List Int) := ms.flatMap fun p => rs.map fun r => p :: r
structure StB (K : PySem.W.Frag) (H H' : Hp) (lr lm l : Addr) (rs : List Addr) (ms : List Int) (rws : List (List Int)) (i : Nat) : Prop where
  sm : Same H H'
  r : H' lr = some (.lst (rs.map V.ref))
  m : H' lm = some (.lst (ms.map V.int))
  T : TupsF intsV K H' rs rws
  o : ∃ as : List Addr, H' l = some (.lst (as.map V.ref)) ∧ TupsF intsV K H' as (standsF (ms.take i) rws)
def iv_as (K : PySem.W.Frag) (a : Addr) (n : Int) (lr lm l : Addr) (rs : List Addr) (ms : List Int) (rws : List (List Int)) (H : Hp) (i : Nat) (σ : St) (H' : Hp) : Prop := StB K H H' lr lm l rs ms rws i ∧ ∃ (t : Option V), σ = [some (.ref a), some (.int n), some (.ref lr), some (.ref l), t]
theorem standsF_len (rs : List (List Int)) : ∀ (ms : List Int), (standsF ms rs).length = ms.length * rs.length
  | [] => by simp [standsF]
  | m :: ms => by
    have ih := standsF_len rs ms
    unfold standsF at ih ⊢
    rw [List.flatMap_cons, List.length_append, List.length_map, ih, List.length_cons, Nat.succ_mul, Nat.add_comm]
def SP_all_stands (K : PySem.W.Frag) (Z : Adr) : Sp := fun vs H Q _ => ∃ (a : Addr) (ds : List Int) (n : Nat), vs = [.ref a, .int n] ∧ SqL K H a (ds.map V.int) ∧ Shaft ds ∧ n ≤ 3 ∧ ∀ (l : Addr) (as : List Addr) (ms : List Int) (H' : Hp), Same H H' → H' l = some (.lst (as.map V.ref)) → TupsF intsV K H' as (standsF ms (rowsF ds.length n)) → ms.Pairwise (· < ·) → (∀ k, k ∈ ms ↔ k ∈ ds ∨ whole ds - k ∈ ds) → ms.length ≤ 501 → Q (.ref l) H'
theorem ok_all_stands {f : Addr} {fd : FuncData} (F : Fun K "all_stands" "all_stands" s_all_stands f fd) (T : Txt K mg Z) {f_spot_rows : Addr} {fd_spot_rows : FuncData} (D_spot_rows : Def K mg "spot_rows" s_spot_rows ["levels", "many"] f_spot_rows fd_spot_rows) (G_spot_rows : FnOk P w K mg base CX0 1 f_spot_rows fd_spot_rows ["levels", "many"] (SP_spot_rows K Z)) {f_all_stops : Addr} {fd_all_stops : FuncData} (D_all_stops : Def K mg "all_stops" s_all_stops ["depths"] f_all_stops fd_all_stops) (G_all_stops : FnOk P w K mg base CX0 4 f_all_stops fd_all_stops ["depths"] (SP_all_stops K Z)) : FnOk P w K mg base CX0 5 f fd ["depths", "many"] (SP_all_stands K Z) := by
  refine F.ok sc_all_stands (fun vs H Q E h => ?_) (fun cdv A outer s H vs Q E hr h => ?_)
  · obtain ⟨a, ds, n, rfl, hS, hsh, n3, q⟩ := h
    rfl
  · obtain ⟨a, ds, n, rfl, hS, hsh, n3, q⟩ := h
    refine ⟨_, pss_cons (ps_set (i := 2) sc_all_stands.nd rfl (Or.inl rfl) (pe_call G_spot_rows (hr.mono (by decide)) (by rfl) D_spot_rows.m D_spot_rows.F.kp D_spot_rows.b .nil pass0 (pa_cons (pe_callB call_len_seq (by rfl) T.g_len bo_len (pa_cons (pv 0) pa_nil)) (pa_cons (pv 1) pa_nil)))) (pss_cons (ps_set (i := 3) sc_all_stands.nd rfl (Or.inl rfl) (pe_lst pa_nil)) (pss_cons (ps_for PassesOwn.never rfl (pi_list (pe_call G_all_stops (hr.mono (by decide)) (by rfl) D_all_stops.m D_all_stops.F.kp D_all_stops.b .nil pass0 (pa_cons (pv 0) pa_nil))) (pg_name (i := 4) sc_all_stands.nd rfl (Or.inr rfl)) (pss_one (ps_expr (pe_bm PySem.F.plainAttrs_list PySem.F.slot_list_extend PySem.F.type_list_extend mt_extend (pv 3) (pa_cons (pe_lc ["spots", "stop"] [none, some 4] (pi_list (pv 2)) (fun _ _ _ _ => (pg_name (i := 0) (show (["spots", "stop"] : List Str).Nodup by decide +kernel) rfl (Or.inl rfl))) (fun _ _ _ _ => pif_nil) (fun _ _ _ _ => (pe_op (show OpR _ _ (rCatA K) from op_catA) (pe_tup (pa_cons (pv 1) pa_nil)) (pv 0)))) pa_nil))))) (pss_one (ps_ret (pv 3))))), ?_⟩
    have l6 := hsh.l6
    have l2 := hsh.l2
    walk_at "rd"
    refine ⟨_, .inl hS, ?_⟩
    rw [List.length_map]
    refine ⟨ds.length, n, rfl, l2, l6, n3, fun lr rs H1 hlr s1 hr hR => ?_⟩
    have hwl : (rowsF ds.length n).length ≤ 500 := by rw [rowsF_len l2 l6 n3]; exact waysF_le l6 n3
    have hrl : ∀ r ∈ rowsF ds.length n, r.length ≤ 3 := fun r hr => by rw [(rowsF_ok l6 hr).len]; exact n3
    generalize rowsF ds.length n = rws at *
    walk_at "rd"
    refine ⟨by decide, fun l hl => ?_⟩
    refine ⟨a, ds, rfl, (s1.lay hl).seq hS, by omega, by omega, fun lm ms H2 hlm s2 hm hup hmem => ?_⟩
    have hml : ms.length ≤ 501 := by
      have hsub : ∀ k ∈ ms, 0 ≤ k ∧ k ≤ 500 := fun k hk => by
        have w5 : whole ds ≤ 500 := by
          obtain ⟨i, hi, e⟩ := mem_getD' hsh.whole_mem
          have := (hsh.get hi).2
          omega
        have g : ∀ d ∈ ds, 0 ≤ d ∧ d ≤ whole ds := fun d hd => by
          obtain ⟨i, hi, e⟩ := mem_getD' hd
          have := (hsh.get hi).1
          exact ⟨by omega, hsh.le_whole hd⟩
        rcases (hmem k).mp hk with h | h
        · have := g _ h; omega
        · have := g _ h; omega
      have e : ms = ((List.range 501).map fun (j : Nat) => (j : Int)).filter (fun k => decide (k ∈ ms)) := by
        refine ext_up hup ?_ fun k => ?_
        · refine List.Pairwise.sublist List.filter_sublist ?_
          rw [List.pairwise_map]
          exact List.pairwise_lt_range.imp fun h => by omega
        · rw [List.mem_filter]
          constructor
          · intro hk
            have := hsub k hk
            exact ⟨List.mem_map.mpr ⟨k.toNat, by rw [List.mem_range]; omega, by omega⟩, by simpa using hk⟩
          · intro hk
            simpa using hk.2
      rw [e]
      exact Nat.le_trans (List.length_filter_le _ _) (by simp)
    have hl2 := s2 _ _ (upd_same (H := H1) (a := l) (o := HO.lst []))
    have hr0 := hr
    replace hr := s2 _ _ (upo (o := HO.lst []) hr hl)
    replace hR := hR.same (((Same.refl H1).lay (o := HO.lst []) hl).trans s2)
    have hln : H l = none := s1.free hl
    have nll : lm ≠ l := fun z => by rw [z, upd_same] at hlm; cases hlm
    have nlr : lr ≠ l := ne_of_none hr0 hl
    replace s1 := (s1.lay (o := HO.lst []) hl).trans s2
    walk_at "rd"
    refine ⟨⟨_, SqL.of hm⟩, ?_⟩
    refine loop_list (ms.map V.int) (iv_as K a n lr lm l rs ms rws H) ⟨⟨s1, hr, hm, hR, [], hl2, TupsF.nil⟩, _, rfl⟩ (fun i σ H' _ ⟨h, _⟩ => SqL.of h.m) ?_ ?_
    · rintro i x σ H3 hx ⟨⟨s3, r3, m3, T3, as, o3, O3⟩, t, rfl⟩
      have hi : i < ms.length := by have := (List.getElem?_eq_some_iff.mp hx).1; rwa [List.length_map] at this
      rw [List.getElem?_map, List.getElem?_eq_getElem hi] at hx
      cases hx
      have hol : (standsF (ms.take i) rws).length ≤ 501 * 500 := by
        rw [standsF_len, List.length_take]
        exact Nat.mul_le_mul (by omega) hwl
      walk_at "rd"
      refine ⟨.inl ⟨rfl, _, SqL.of o3⟩, ⟨_, SqL.of r3⟩, ?_⟩
      refine cj_inv rws.length (fun k acc H' => Same H3 H' ∧ ∃ cs : List Addr, acc = cs.map V.ref ∧ TupsF intsV K H' cs ((rws.take k).map fun r => ms[i] :: r)) ⟨Same.refl _, [], rfl, TupsF.nil⟩ ?_ ?_ ?_ ?_
      · rintro k acc H' hk ⟨s4, _⟩
        have hk' : k < rs.length := by rw [T3.1]; exact hk
        exact ⟨_, .ref (rs[k]), SqL.of (s4 _ _ r3), by rw [List.getElem?_map, List.getElem?_eq_getElem hk']; rfl⟩
      · rintro acc H' ⟨s4, _⟩
        exact ⟨_, SqL.of (s4 _ _ r3), by rw [List.length_map, T3.1]; exact Nat.le_refl _⟩
      · rintro k acc H4 hk ⟨s4, cs, rfl, T4⟩
        have hk' : k < rs.length := by rw [T3.1]; exact hk
        have hcl := T4.1
        rw [List.length_map, List.length_take] at hcl
        refine ⟨small1000 (by rw [List.length_map]; omega), ?_⟩
        rintro x H5 ⟨e5, y⟩ M hM
        subst e5
        have hy := y _ (SqL.of (s4 _ _ r3))
        rw [List.getElem?_map, List.getElem?_eq_getElem hk'] at hy
        cases hy
        have hrow := s4.tup (T3.2 k _ _ (List.getElem?_eq_getElem hk') (List.getElem?_eq_getElem hk))
        have hr3 := hrl _ (List.getElem_mem hk)
        walk_at "rd"
        refine ⟨⟨rfl, fun k v e => by match k, e with | 0, e => cases e | 1, e => exact e | k + 2, e => cases e⟩, ?_⟩
        refine ⟨by decide, fun p hp => ⟨_, SqT.of upd_same, _, ((Same.refl _).lay hp).tup hrow, by show 1 + (List.map V.int _).length ≤ 1000; rw [List.length_map]; omega, fun p1 H6 s6 t6 => ?_⟩⟩
        replace s6 := ((Same.refl _).lay hp).trans s6
        refine hM _ _ ⟨s4.trans s6, cs ++ [p1], by rw [List.map_append]; rfl, ?_⟩
        rw [List.take_succ_eq_append_getElem hk, List.map_append]
        exact (T4.same s6).app (TupsF.one t6)
      · rintro acc H4 ⟨s4, cs, rfl, T4⟩ p hp
        rw [List.take_length] at T4
        walk_at "rd"
        have e1 := O3.1
        have e2 := T4.1
        rw [List.length_map] at e2
        refine ⟨_, upo (s4 _ _ o3) hp, _, upd_same, Nat.le_of_lt (by rw [List.length_map, List.length_map, e1, e2, sizeLine_eq]; omega), ?_⟩
        have np : p ≠ l := fun z => by rw [z, s4 _ _ o3] at hp; cases hp
        have hlo := upo (o := HO.lst (cs.map V.ref)) (s4 _ _ o3) hp
        have s5 := s4.lay (o := HO.lst (cs.map V.ref)) hp
        refine ⟨⟨(s3.trans s5).rewr hln, by rw [upd_ne nlr]; exact s5 _ _ r3, by rw [upd_ne nll]; exact s5 _ _ m3, (T3.same s5).rew hlo, as ++ cs, by rw [upd_same, List.map_append], ?_⟩, _, rfl⟩
        have e3 : standsF (ms.take (i + 1)) rws = standsF (ms.take i) rws ++ rws.map fun r => ms[i] :: r := by
          unfold standsF
          rw [List.take_succ_eq_append_getElem hi, List.flatMap_append]; simp
        rw [e3]
        exact ((O3.same s5).app (T4.same ((Same.refl H4).lay hp))).rew hlo
    · rintro σ H3 ⟨⟨s3, r3, m3, T3, as, o3, O3⟩, t, rfl⟩
      walk_at "rd"
      rw [List.length_map, List.take_length] at O3
      exact q l as ms H3 s3 o3 O3 hup hmem hml
theorem standsF_up {ms : List Int} {rows : List (List Int)} (hm : ms.Pairwise (· < ·)) (hr : rows.Pairwise (fun a b => lexB a b = true)) : (standsF ms rows).Pairwise (fun a b => lexB a b = true) := by
  unfold standsF
  rw [List.pairwise_flatMap]
  refine ⟨fun p _ => ?_, hm.imp fun {a b} h x hx y hy => ?_⟩
  · rw [List.pairwise_map]
    exact hr.imp fun {a b} h => by
      show (if p = p then lexB a b else decide (p < p)) = true
      rw [if_pos rfl]
      exact h
  · obtain ⟨r, _, rfl⟩ := List.mem_map.mp hx
    obtain ⟨r', _, rfl⟩ := List.mem_map.mp hy
    show (if a = b then lexB r r' else decide (a < b)) = true
    rw [if_neg (by omega)]
    simpa using h
theorem standsF_mem {ms : List Int} {rows : List (List Int)} {x : List Int} (h : x ∈ standsF ms rows) : ∃ p r, x = p :: r ∧ p ∈ ms ∧ r ∈ rows := by
  obtain ⟨p, hp, hx⟩ := List.mem_flatMap.mp h
  obtain ⟨r, hr, rfl⟩ := List.mem_map.mp hx
  exact ⟨p, r, rfl, hp, hr⟩
def iv_l (xs : List (Option V)) (H : Hp) (_ : Nat) (σ : St) (H' : Hp) : Prop := Same H H' ∧ ∃ t, σ = xs ++ [t, none]
def SP_law (K : PySem.W.Frag) (Z : Adr) : Sp := fun vs H Q _ => ∃ (a : Addr) (ns : List Int), vs = [.ref a] ∧ SqL K H a (ns.map V.int) ∧ ns.length ≤ 63 ∧ ∀ H', Q (.bl true) H'
theorem ok_law {f : Addr} {fd : FuncData} (F : Fun K "law" "law" s_law f fd) (T : Txt K mg Z) {f_l_depths : Addr} {fd_l_depths : FuncData} (D_l_depths : Def K mg "_law_depths" s_l_depths ["_law_cell"] f_l_depths fd_l_depths) (G_l_depths : FnOk P w K mg base CX0 2 f_l_depths fd_l_depths ["_law_cell"] (SP_l_depths K Z)) {f_l_many : Addr} {fd_l_many : FuncData} (D_l_many : Def K mg "_law_many" s_l_many ["_law_cell", "_law_levels"] f_l_many fd_l_many) (G_l_many : FnOk P w K mg base CX0 2 f_l_many fd_l_many ["_law_cell", "_law_levels"] (SP_l_many K Z)) {f_all_stands : Addr} {fd_all_stands : FuncData} (D_all_stands : Def K mg "all_stands" s_all_stands ["depths", "many"] f_all_stands fd_all_stands) (G_all_stands : FnOk P w K mg base CX0 5 f_all_stands fd_all_stands ["depths", "many"] (SP_all_stands K Z)) {f_l_stops : Addr} {fd_l_stops : FuncData} (D_l_stops : Def K mg "_law_stops" s_l_stops ["_law_depths_here"] f_l_stops fd_l_stops) (G_l_stops : FnOk P w K mg base CX0 1 f_l_stops fd_l_stops ["_law_depths_here"] (SP_l_stops K Z)) {f_l_at : Addr} {fd_l_at : FuncData} (D_l_at : Def K mg "_law_at" s_l_at ["_law_script", "_law_k"] f_l_at fd_l_at) (G_l_at : FnOk P w K mg base CX0 1 f_l_at fd_l_at ["_law_script", "_law_k"] (SP_l_at K Z)) {f_l_whole : Addr} {fd_l_whole : FuncData} (D_l_whole : Def K mg "_law_whole" s_l_whole ["_law_found"] f_l_whole fd_l_whole) (G_l_whole : FnOk P w K mg base CX0 1 f_l_whole fd_l_whole ["_law_found"] (SP_l_whole K Z)) {f_l_ints : Addr} {fd_l_ints : FuncData} (D_l_ints : Def K mg "_law_ints" s_l_ints ["_law_found", "_law_due"] f_l_ints fd_l_ints) (G_l_ints : FnOk P w K mg base CX0 1 f_l_ints fd_l_ints ["_law_found", "_law_due"] (SP_l_ints K Z)) {f_l_is_stand : Addr} {fd_l_is_stand : FuncData} (D_l_is_stand : Def K mg "_law_is_stand" s_l_is_stand ["_law_found", "_law_many_here", "_law_levels", "_law_places"] f_l_is_stand fd_l_is_stand) (G_l_is_stand : FnOk P w K mg base CX0 2 f_l_is_stand fd_l_is_stand ["_law_found", "_law_many_here", "_law_levels", "_law_places"] (SP_l_is_stand K Z)) {f_l_below : Addr} {fd_l_below : FuncData} (D_l_below : Def K mg "_law_below" s_l_below ["_law_one", "_law_two"] f_l_below fd_l_below) (G_l_below : FnOk P w K mg base CX0 1 f_l_below fd_l_below ["_law_one", "_law_two"] (SP_l_below K Z)) : FnOk P w K mg base CX0 6 f fd ["_law_script"] (SP_law K Z) := by
  refine F.ok sc_law (fun vs H Q E h => ?_) (fun cdv A outer s H vs Q E hr h => ?_)
  · obtain ⟨a, ns, rfl, hS, hl, q⟩ := h
    rfl
  · obtain ⟨a, ns, rfl, hS, hl, q⟩ := h
    refine ⟨_, pss_cons (ps_set (i := 1) sc_law.nd rfl (Or.inl rfl) (pe_call G_l_depths (hr.mono (by decide)) (by rfl) D_l_depths.m D_l_depths.F.kp D_l_depths.b .nil pass0 (pa_cons (pe_call G_l_at (hr.mono (by decide)) (by rfl) D_l_at.m D_l_at.F.kp D_l_at.b .nil pass0 (pa_cons (pv 0) (pa_cons pe_int pa_nil))) pa_nil))) (pss_cons (ps_set (i := 2) sc_law.nd rfl (Or.inl rfl) (pe_callB call_len_seq (by rfl) T.g_len bo_len (pa_cons (pv 1) pa_nil))) (pss_cons (ps_set (i := 3) sc_law.nd rfl (Or.inl rfl) (pe_call G_l_many (hr.mono (by decide)) (by rfl) D_l_many.m D_l_many.F.kp D_l_many.b .nil pass0 (pa_cons (pe_call G_l_at (hr.mono (by decide)) (by rfl) D_l_at.m D_l_at.F.kp D_l_at.b .nil pass0 (pa_cons (pv 0) (pa_cons pe_int pa_nil))) (pa_cons (pv 2) pa_nil)))) (pss_cons (ps_set (i := 4) sc_law.nd rfl (Or.inl rfl) (pe_callTy call_list_of (by rfl) T.g_list bo_list (pa_cons (pv 1) pa_nil))) (pss_cons (ps_set (i := 5) sc_law.nd rfl (Or.inl rfl) (pe_call G_all_stands (hr.mono (by decide)) (by rfl) D_all_stands.m D_all_stands.F.kp D_all_stands.b .nil pass0 (pa_cons (pv 4) (pa_cons (pv 3) pa_nil)))) (pss_cons (ps_if (pw_or (pt_not (pt_val (pe_call G_l_whole (hr.mono (by decide)) (by rfl) D_l_whole.m D_l_whole.F.kp D_l_whole.b .nil pass0 (pa_cons (pe_globV (by rfl) T.c_MOST_PLANNED) pa_nil)))) (pw_or (pt_cmpR op_ne (pe_globV (by rfl) T.c_MOST_PLANNED) pe_int (nomark _)) (pw_or1 (pt_not (pt_val (pe_call G_l_ints (hr.mono (by decide)) (by rfl) D_l_ints.m D_l_ints.F.kp D_l_ints.b .nil pass0 (pa_cons (pv 4) (pa_cons (pv 1) pa_nil)))))))).pt (pss_one (ps_ret pe_bl)) (pss_nil)) (pss_cons (ps_if (pt_not (pt_val (pe_callB call_isi (by rfl) T.g_isinstance bo_isinstance (pa_cons (pv 5) (pa_cons (pe_bltn (v := .ty "list") (by rfl) T.g_list bo_list rfl) pa_nil))))) (pss_one (ps_ret pe_bl)) (pss_nil)) (pss_cons (ps_set (i := 6) sc_law.nd rfl (Or.inl rfl) (pe_call G_l_stops (hr.mono (by decide)) (by rfl) D_l_stops.m D_l_stops.F.kp D_l_stops.b .nil pass0 (pa_cons (pv 1) pa_nil))) (pss_cons (ps_for PassesOwn.never rfl (pi_range1 (by rfl) T.g_range (pa_cons (pe_callB call_len_seq (by rfl) T.g_len bo_len (pa_cons (pv 5) pa_nil)) pa_nil)) (pg_name (i := 7) sc_law.nd rfl (Or.inl rfl)) (pss_cons (ps_if (pt_not (pt_val (pe_call G_l_is_stand (hr.mono (by decide)) (by rfl) D_l_is_stand.m D_l_is_stand.F.kp D_l_is_stand.b .nil pass0 (pa_cons (pe_ix ix_list (pv 5) (pv 7) (fun _ _ => rfl)) (pa_cons (pv 3) (pa_cons (pv 2) (pa_cons (pv 6) pa_nil))))))) (pss_one (ps_ret pe_bl)) (pss_nil)) (pss_one (ps_if (pw_and (pt_cmpR op_gt (pv 7) pe_int (nomark _)) (pw_and1 (pt_not (pt_val (pe_call G_l_below (hr.mono (by decide)) (by rfl) D_l_below.m D_l_below.F.kp D_l_below.b .nil pass0 (pa_cons (pe_ix ix_list (pv 5) (pe_op op_sub (pv 7) pe_int) (fun _ _ => rfl)) (pa_cons (pe_ix ix_list (pv 5) (pv 7) (fun _ _ => rfl)) pa_nil))))))).pt (pss_one (ps_ret pe_bl)) (pss_nil))))) (pss_cons (ps_set (i := 8) sc_law.nd rfl (Or.inl rfl) (pe_op op_add (pe_op op_add (pe_op op_mul (pv 2) (pv 2)) (pe_op op_mul pe_int (pv 2))) pe_int)) (pss_cons (ps_if (pt_cmpR op_lt (pv 3) pe_int (nomark _)) (pss_one (ps_set (i := 8) sc_law.nd rfl (Or.inl rfl) (pe_ix ix_list (pe_lst (pa_cons pe_int (pa_cons (pe_op op_add (pv 2) pe_int) pa_nil))) (pv 3) (fun _ _ => rfl)))) (pss_nil)) (pss_cons (ps_if (pt_cmpR op_eq (pv 3) pe_int (nomark _)) (pss_one (ps_set (i := 8) sc_law.nd rfl (Or.inl rfl) (pe_op op_add (pe_op op_add (pe_op op_mul (pe_op op_mul (pv 2) (pv 2)) (pv 2)) (pe_op op_mul (pe_op op_mul pe_int (pv 2)) (pv 2))) (pe_op op_mul pe_int (pv 2))))) (pss_nil)) (pss_one (ps_ret (pe_cmpR op_eq (pe_callB call_len_seq (by rfl) T.g_len bo_len (pa_cons (pv 5) pa_nil)) (pe_op op_mul (pe_callB call_len_seq (by rfl) T.g_len bo_len (pa_cons (pv 6) pa_nil)) (pv 8)) (nomark _))))))))))))))), ?_⟩
    walk_at "rd"
    refine ⟨a, ns, 0, rfl, hS, by omega, ?_⟩
    walk_at "rd"
    refine ⟨_, rfl, fun l0 ds H1 hl0 s1 hl1 hsh => ?_⟩
    have l2 := hsh.l2
    have l6 := hsh.l6
    walk_at "rd"
    refine ⟨_, .inl (SqL.of hl1), ?_⟩
    rw [List.length_map]
    refine ⟨a, ns, 1, rfl, s1.seq hS, by omega, ?_⟩
    walk_at "rd"
    refine ⟨_, _, rfl, fun nI n0 n4 => ?_⟩
    obtain ⟨n, rfl⟩ := Int.eq_ofNat_of_zero_le n0
    have n3 : n ≤ 3 := by omega
    walk_at "rd"
    refine ⟨_, .inl (SqL.of hl1), fun p hp => ?_⟩
    refine ⟨p, ds, n, rfl, SqL.of upd_same, hsh, n3, fun l as ms H2 s2 hl2 hT hup hmem hml => ?_⟩
    have hp2 := s2 _ _ (upd_same (H := H1) (a := p) (o := HO.lst (ds.map V.int)))
    replace hl1 := s2 _ _ (upo (o := HO.lst (ds.map V.int)) hl1 hp)
    clear s1 s2
    walk_at "rd"
    refine ⟨3, rfl, ?_⟩
    walk_at "rd"
    refine ⟨p, l0, ds, rfl, hp2, SqL.of hl1, by omega, ?_⟩
    walk_at "rd"
    refine isi_lst_list hl2 ?_
    walk_at "rd"
    refine ⟨l0, ds, rfl, SqL.of hl1, hsh, fun lp ps H3 hlp s3 hl3 eps p0 p1 => ?_⟩
    have epm : ps = ms := by
      refine ext_up ?_ hup fun k => ?_
      · rw [eps]
        refine List.Pairwise.sublist List.filter_sublist ?_
        rw [List.pairwise_map]
        exact List.pairwise_lt_range.imp fun h => by omega
      · rw [eps, List.mem_filter, hmem]
        have g : ∀ d ∈ ds, 0 ≤ d ∧ d ≤ whole ds := fun d hd => by
          obtain ⟨i, hi, e⟩ := mem_getD' hd
          have := (hsh.get hi).1
          exact ⟨by omega, hsh.le_whole hd⟩
        constructor
        · intro h
          simpa using h.2
        · intro h
          refine ⟨List.mem_map.mpr ⟨k.toNat, ?_, ?_⟩, by simpa using h⟩
          · rw [List.mem_range]
            rcases h with h | h
            · have := g _ h; omega
            · have := g _ h; omega
          · rcases h with h | h
            · have := g _ h; omega
            · have := g _ h; omega
    subst epm
    replace hl2 := s3 _ _ hl2
    replace hT := hT.same s3
    have hsl : (standsF ps (rowsF ds.length n)).length = ps.length * waysF ds.length n := by rw [standsF_len, rowsF_len l2 l6 n3]
    have hal : as.length = ps.length * waysF ds.length n := by rw [hT.1, hsl]
    have hbig : as.length ≤ 501 * 500 := by rw [hal]; exact Nat.mul_le_mul hml (waysF_le l6 n3)
    have hsu := standsF_up hup (rowsF_up l6 n)
    have hso : ∀ x ∈ standsF ps (rowsF ds.length n), ∃ p r, x = p :: r ∧ p ∈ ps ∧ RowOk ds.length n r := fun x hx => by
      obtain ⟨p, r, e, h1, h2⟩ := standsF_mem hx
      exact ⟨p, r, e, h1, rowsF_ok l6 h2⟩
    generalize standsF ps (rowsF ds.length n) = ss at *
    walk_at "rd"
    refine ⟨_, .inl (SqL.of hl2), by omega, by rw [List.length_map]; omega, ?_⟩
    refine loop_range (iv_l [some (.ref a), some (.ref l0), some (.int ds.length), some (.int n), some (.ref p), some (.ref l), some (.ref lp)] H3) ⟨Same.refl _, _, rfl⟩ ?_ ?_
    · rintro i σ H4 hi ⟨s4, t, rfl⟩
      rw [List.length_map] at hi
      have hi' : i < as.length := by omega
      have his : i < ss.length := by rw [← hT.1]; exact hi'
      have ei : atI (as.map V.ref) (0 + (i : Int)) = some (.ref as[i]) := by
        rw [Int.zero_add]
        exact atI_of (by rw [List.getElem?_map, List.getElem?_eq_getElem hi']; rfl)
      obtain ⟨p', r', ex, hp', hr'⟩ := hso _ (List.getElem_mem his)
      have hx := hT.2 i _ _ (List.getElem?_eq_getElem hi') (List.getElem?_eq_getElem his)
      walk_at "rd"
      refine ⟨_, SqL.of (s4 _ _ hl2), _, ei, ?_⟩
      refine ⟨as[i], lp, p', r', ps, n, ds.length, rfl, s4.tup (by rw [ex] at hx; exact hx), SqL.of (s4 _ _ hl3), hr', n3, l6, hp', fun H5 s5 => ?_⟩
      replace s5 := s4.trans s5
      walk_at "rd"
      split
      · rename_i h0
        have hi1 : i - 1 < as.length := by omega
        have his1 : i - 1 < ss.length := by omega
        have ei1 : atI (as.map V.ref) (0 + (i : Int) - 1) = some (.ref as[i - 1]) := by
          rw [show 0 + (i : Int) - 1 = ((i - 1 : Nat) : Int) by omega]
          exact atI_of (by rw [List.getElem?_map, List.getElem?_eq_getElem hi1]; rfl)
        obtain ⟨p'', r'', ex'', _, hr''⟩ := hso _ (List.getElem_mem his1)
        have hx1 := hT.2 (i - 1) _ _ (List.getElem?_eq_getElem hi1) (List.getElem?_eq_getElem his1)
        have hlt := List.pairwise_iff_getElem.mp hsu (i - 1) i his1 his (by omega)
        refine ⟨_, SqL.of (s5 _ _ hl2), _, ei1, _, SqL.of (s5 _ _ hl2), _, ei, ?_⟩
        refine ⟨_, _, ss[i - 1], ss[i], rfl, s5.tup hx1, s5.tup hx, by rw [ex, ex'', List.length_cons, List.length_cons, hr'.len, hr''.len], by rw [ex'', List.length_cons, hr''.len]; omega, hlt, ?_⟩
        walk_at "rd"
        exact ⟨s5, _, rfl⟩
      · exact ⟨s5, _, rfl⟩
    · rintro σ H4 ⟨s4, t, rfl⟩
      have b1 : -18446744073709551616 < (ds.length : Int) := by omega
      have b2 : (ds.length : Int) < 18446744073709551616 := by omega
      have b3 : -18446744073709551616 < ((ps.map V.int).length : Int) := by omega
      have b4 : ((ps.map V.int).length : Int) < 18446744073709551616 := by rw [List.length_map]; omega
      rcases (by omega : n = 0 ∨ n = 1 ∨ n = 2 ∨ n = 3) with rfl | rfl | rfl | rfl
      · have e : ((as.map V.ref).length : Int) = ((ps.map V.int).length : Int) * 1 := by rw [List.length_map, List.length_map, hal]; simp [waysF]
        walk_at "rd"
        refine ⟨.inl ⟨b1, b2⟩, ?_⟩
        rw [if_pos (by decide)]
        refine ⟨by decide, fun p5 hp5 => ⟨_, SqL.of upd_same, V.int 1, atI_of (k := 0) rfl, ?_⟩⟩
        rw [if_neg (by decide)]
        refine ⟨_, .inl (SqL.of (upo (s4 _ _ hl2) hp5)), _, .inl (SqL.of (upo (s4 _ _ hl3) hp5)), _, rfl, .inl ⟨b3, b4⟩, ?_⟩
        rw [decide_eq_true e]
        exact q _
      · have e : ((as.map V.ref).length : Int) = ((ps.map V.int).length : Int) * ((ds.length : Int) + 2) := by rw [List.length_map, List.length_map, hal]; simp [waysF]
        walk_at "rd"
        refine ⟨.inl ⟨b1, b2⟩, ?_⟩
        rw [if_pos (by decide)]
        refine ⟨by decide, fun p5 hp5 => ⟨_, SqL.of upd_same, V.int ((ds.length : Int) + 2), atI_of (k := 1) rfl, ?_⟩⟩
        rw [if_neg (by decide)]
        refine ⟨_, .inl (SqL.of (upo (s4 _ _ hl2) hp5)), _, .inl (SqL.of (upo (s4 _ _ hl3) hp5)), _, rfl, .inl ⟨b3, b4⟩, ?_⟩
        rw [decide_eq_true e]
        exact q _
      · have e : ((as.map V.ref).length : Int) = ((ps.map V.int).length : Int) * ((ds.length : Int) * (ds.length : Int) + 4 * (ds.length : Int) + 2) := by rw [List.length_map, List.length_map, hal]; simp [waysF]
        walk_at "rd"
        refine ⟨.inl ⟨b1, b2⟩, ?_⟩
        rw [if_neg (by decide), if_neg (by decide)]
        refine ⟨_, .inl (SqL.of (s4 _ _ hl2)), _, .inl (SqL.of (s4 _ _ hl3)), .inl ⟨b3, b4⟩, ?_⟩
        rw [decide_eq_true e]
        exact q _
      · have e : ((as.map V.ref).length : Int) = ((ps.map V.int).length : Int) * ((ds.length : Int) * (ds.length : Int) * (ds.length : Int) + 6 * (ds.length : Int) * (ds.length : Int) + 6 * (ds.length : Int)) := by rw [List.length_map, List.length_map, hal]; simp [waysF]
        walk_at "rd"
        refine ⟨.inl ⟨b1, b2⟩, ?_⟩
        rw [if_neg (by decide), if_pos (by decide)]
        refine ⟨.inl ⟨b1, b2⟩, .inr ⟨b1, b2⟩, .inr ⟨b1, b2⟩, _, .inl (SqL.of (s4 _ _ hl2)), _, .inl (SqL.of (s4 _ _ hl3)), .inl ⟨b3, b4⟩, ?_⟩
        rw [decide_eq_true e]
        exact q _
end
theorem all_mk {l : PySem.W.OpenLaw} {w : World} {K : PySem.W.Frag} {h : Heap} {mg : Str → Option Value} {fa : Addr} (X : K.In h) (G : h.Ns mainGlobals mg) (hfa : mg "law" = some (.ref fa))
    {f_drum_whole : Addr} {od_drum_whole an_drum_whole : Option Addr} {sl_drum_whole : Array (Option Value)} {oc_drum_whole kV_drum_whole dc_drum_whole pm_drum_whole cd_drum_whole ct_drum_whole : Value}
    {f_other_place : Addr} {od_other_place an_other_place : Option Addr} {sl_other_place : Array (Option Value)} {oc_other_place kV_other_place dc_other_place pm_other_place cd_other_place ct_other_place : Value}
    {f_wound_place : Addr} {od_wound_place an_wound_place : Option Addr} {sl_wound_place : Array (Option Value)} {oc_wound_place kV_wound_place dc_wound_place pm_wound_place cd_wound_place ct_wound_place : Value}
    {f_all_stops : Addr} {od_all_stops an_all_stops : Option Addr} {sl_all_stops : Array (Option Value)} {oc_all_stops kV_all_stops dc_all_stops pm_all_stops cd_all_stops ct_all_stops : Value}
    {f_all_stands : Addr} {od_all_stands an_all_stands : Option Addr} {sl_all_stands : Array (Option Value)} {oc_all_stands kV_all_stands dc_all_stands pm_all_stands cd_all_stands ct_all_stands : Value}
    {f_spot_rows : Addr} {od_spot_rows an_spot_rows : Option Addr} {sl_spot_rows : Array (Option Value)} {oc_spot_rows kV_spot_rows dc_spot_rows pm_spot_rows cd_spot_rows ct_spot_rows : Value}
    {f_l_whole : Addr} {od_l_whole an_l_whole : Option Addr} {sl_l_whole : Array (Option Value)} {oc_l_whole kV_l_whole dc_l_whole pm_l_whole cd_l_whole ct_l_whole : Value}
    {f_l_at : Addr} {od_l_at an_l_at : Option Addr} {sl_l_at : Array (Option Value)} {oc_l_at kV_l_at dc_l_at pm_l_at cd_l_at ct_l_at : Value}
    {f_l_draw : Addr} {od_l_draw an_l_draw : Option Addr} {sl_l_draw : Array (Option Value)} {oc_l_draw kV_l_draw dc_l_draw pm_l_draw cd_l_draw ct_l_draw : Value}
    {f_l_ints : Addr} {od_l_ints an_l_ints : Option Addr} {sl_l_ints : Array (Option Value)} {oc_l_ints kV_l_ints dc_l_ints pm_l_ints cd_l_ints ct_l_ints : Value}
    {f_l_depths : Addr} {od_l_depths an_l_depths : Option Addr} {sl_l_depths : Array (Option Value)} {oc_l_depths kV_l_depths dc_l_depths pm_l_depths cd_l_depths ct_l_depths : Value}
    {f_l_stops : Addr} {od_l_stops an_l_stops : Option Addr} {sl_l_stops : Array (Option Value)} {oc_l_stops kV_l_stops dc_l_stops pm_l_stops cd_l_stops ct_l_stops : Value}
    {f_l_many : Addr} {od_l_many an_l_many : Option Addr} {sl_l_many : Array (Option Value)} {oc_l_many kV_l_many dc_l_many pm_l_many cd_l_many ct_l_many : Value}
    {f_l_is_stand : Addr} {od_l_is_stand an_l_is_stand : Option Addr} {sl_l_is_stand : Array (Option Value)} {oc_l_is_stand kV_l_is_stand dc_l_is_stand pm_l_is_stand cd_l_is_stand ct_l_is_stand : Value}
    {f_l_below : Addr} {od_l_below an_l_below : Option Addr} {sl_l_below : Array (Option Value)} {oc_l_below kV_l_below dc_l_below pm_l_below cd_l_below ct_l_below : Value}
    {f_law : Addr} {od_law an_law : Option Addr} {sl_law : Array (Option Value)} {oc_law kV_law dc_law pm_law cd_law ct_law : Value}
    {tk_MOST_PLANNED : Tok}
    {ta_CAGE_SPOTS : Addr} {tk_CAGE_SPOTS_0 tk_CAGE_SPOTS_1 : Tok} {to_CAGE_SPOTS : Option Addr} {tn_CAGE_SPOTS : Nat} {ts_CAGE_SPOTS : Array (Option Value)}
    (a_drum_whole : PySem.W.nsIn K mainGlobals "drum_whole" = some (some (.ref f_drum_whole))) (l_drum_whole : K.lookup f_drum_whole = some ⟨oc_drum_whole, od_drum_whole, .func (PySem.W.fnOf "drum_whole" "drum_whole" (defArgs s_drum_whole) (defBody s_drum_whole) (defScope s_drum_whole) .none kV_drum_whole dc_drum_whole pm_drum_whole an_drum_whole cd_drum_whole ct_drum_whole), sl_drum_whole⟩) (c_drum_whole : PySem.W.codeIn K cd_drum_whole "drum_whole" = true) (k_drum_whole : PySem.W.keepIn K (.ref f_drum_whole) = true)
    (a_other_place : PySem.W.nsIn K mainGlobals "other_place" = some (some (.ref f_other_place))) (l_other_place : K.lookup f_other_place = some ⟨oc_other_place, od_other_place, .func (PySem.W.fnOf "other_place" "other_place" (defArgs s_other_place) (defBody s_other_place) (defScope s_other_place) .none kV_other_place dc_other_place pm_other_place an_other_place cd_other_place ct_other_place), sl_other_place⟩) (c_other_place : PySem.W.codeIn K cd_other_place "other_place" = true) (k_other_place : PySem.W.keepIn K (.ref f_other_place) = true)
    (a_wound_place : PySem.W.nsIn K mainGlobals "wound_place" = some (some (.ref f_wound_place))) (l_wound_place : K.lookup f_wound_place = some ⟨oc_wound_place, od_wound_place, .func (PySem.W.fnOf "wound_place" "wound_place" (defArgs s_wound_place) (defBody s_wound_place) (defScope s_wound_place) .none kV_wound_place dc_wound_place pm_wound_place an_wound_place cd_wound_place ct_wound_place), sl_wound_place⟩) (c_wound_place : PySem.W.codeIn K cd_wound_place "wound_place" = true) (k_wound_place : PySem.W.keepIn K (.ref f_wound_place) = true)
    (a_all_stops : PySem.W.nsIn K mainGlobals "all_stops" = some (some (.ref f_all_stops))) (l_all_stops : K.lookup f_all_stops = some ⟨oc_all_stops, od_all_stops, .func (PySem.W.fnOf "all_stops" "all_stops" (defArgs s_all_stops) (defBody s_all_stops) (defScope s_all_stops) .none kV_all_stops dc_all_stops pm_all_stops an_all_stops cd_all_stops ct_all_stops), sl_all_stops⟩) (c_all_stops : PySem.W.codeIn K cd_all_stops "all_stops" = true) (k_all_stops : PySem.W.keepIn K (.ref f_all_stops) = true)
    (a_all_stands : PySem.W.nsIn K mainGlobals "all_stands" = some (some (.ref f_all_stands))) (l_all_stands : K.lookup f_all_stands = some ⟨oc_all_stands, od_all_stands, .func (PySem.W.fnOf "all_stands" "all_stands" (defArgs s_all_stands) (defBody s_all_stands) (defScope s_all_stands) .none kV_all_stands dc_all_stands pm_all_stands an_all_stands cd_all_stands ct_all_stands), sl_all_stands⟩) (c_all_stands : PySem.W.codeIn K cd_all_stands "all_stands" = true) (k_all_stands : PySem.W.keepIn K (.ref f_all_stands) = true)
    (a_spot_rows : PySem.W.nsIn K mainGlobals "spot_rows" = some (some (.ref f_spot_rows))) (l_spot_rows : K.lookup f_spot_rows = some ⟨oc_spot_rows, od_spot_rows, .func (PySem.W.fnOf "spot_rows" "spot_rows" (defArgs s_spot_rows) (defBody s_spot_rows) (defScope s_spot_rows) .none kV_spot_rows dc_spot_rows pm_spot_rows an_spot_rows cd_spot_rows ct_spot_rows), sl_spot_rows⟩) (c_spot_rows : PySem.W.codeIn K cd_spot_rows "spot_rows" = true) (k_spot_rows : PySem.W.keepIn K (.ref f_spot_rows) = true)
    (a_l_whole : PySem.W.nsIn K mainGlobals "_law_whole" = some (some (.ref f_l_whole))) (l_l_whole : K.lookup f_l_whole = some ⟨oc_l_whole, od_l_whole, .func (PySem.W.fnOf "_law_whole" "_law_whole" (defArgs s_l_whole) (defBody s_l_whole) (defScope s_l_whole) .none kV_l_whole dc_l_whole pm_l_whole an_l_whole cd_l_whole ct_l_whole), sl_l_whole⟩) (c_l_whole : PySem.W.codeIn K cd_l_whole "_law_whole" = true) (k_l_whole : PySem.W.keepIn K (.ref f_l_whole) = true)
    (a_l_at : PySem.W.nsIn K mainGlobals "_law_at" = some (some (.ref f_l_at))) (l_l_at : K.lookup f_l_at = some ⟨oc_l_at, od_l_at, .func (PySem.W.fnOf "_law_at" "_law_at" (defArgs s_l_at) (defBody s_l_at) (defScope s_l_at) .none kV_l_at dc_l_at pm_l_at an_l_at cd_l_at ct_l_at), sl_l_at⟩) (c_l_at : PySem.W.codeIn K cd_l_at "_law_at" = true) (k_l_at : PySem.W.keepIn K (.ref f_l_at) = true)
    (a_l_draw : PySem.W.nsIn K mainGlobals "_law_draw" = some (some (.ref f_l_draw))) (l_l_draw : K.lookup f_l_draw = some ⟨oc_l_draw, od_l_draw, .func (PySem.W.fnOf "_law_draw" "_law_draw" (defArgs s_l_draw) (defBody s_l_draw) (defScope s_l_draw) .none kV_l_draw dc_l_draw pm_l_draw an_l_draw cd_l_draw ct_l_draw), sl_l_draw⟩) (c_l_draw : PySem.W.codeIn K cd_l_draw "_law_draw" = true) (k_l_draw : PySem.W.keepIn K (.ref f_l_draw) = true)
    (a_l_ints : PySem.W.nsIn K mainGlobals "_law_ints" = some (some (.ref f_l_ints))) (l_l_ints : K.lookup f_l_ints = some ⟨oc_l_ints, od_l_ints, .func (PySem.W.fnOf "_law_ints" "_law_ints" (defArgs s_l_ints) (defBody s_l_ints) (defScope s_l_ints) .none kV_l_ints dc_l_ints pm_l_ints an_l_ints cd_l_ints ct_l_ints), sl_l_ints⟩) (c_l_ints : PySem.W.codeIn K cd_l_ints "_law_ints" = true) (k_l_ints : PySem.W.keepIn K (.ref f_l_ints) = true)
    (a_l_depths : PySem.W.nsIn K mainGlobals "_law_depths" = some (some (.ref f_l_depths))) (l_l_depths : K.lookup f_l_depths = some ⟨oc_l_depths, od_l_depths, .func (PySem.W.fnOf "_law_depths" "_law_depths" (defArgs s_l_depths) (defBody s_l_depths) (defScope s_l_depths) .none kV_l_depths dc_l_depths pm_l_depths an_l_depths cd_l_depths ct_l_depths), sl_l_depths⟩) (c_l_depths : PySem.W.codeIn K cd_l_depths "_law_depths" = true) (k_l_depths : PySem.W.keepIn K (.ref f_l_depths) = true)
    (a_l_stops : PySem.W.nsIn K mainGlobals "_law_stops" = some (some (.ref f_l_stops))) (l_l_stops : K.lookup f_l_stops = some ⟨oc_l_stops, od_l_stops, .func (PySem.W.fnOf "_law_stops" "_law_stops" (defArgs s_l_stops) (defBody s_l_stops) (defScope s_l_stops) .none kV_l_stops dc_l_stops pm_l_stops an_l_stops cd_l_stops ct_l_stops), sl_l_stops⟩) (c_l_stops : PySem.W.codeIn K cd_l_stops "_law_stops" = true) (k_l_stops : PySem.W.keepIn K (.ref f_l_stops) = true)
    (a_l_many : PySem.W.nsIn K mainGlobals "_law_many" = some (some (.ref f_l_many))) (l_l_many : K.lookup f_l_many = some ⟨oc_l_many, od_l_many, .func (PySem.W.fnOf "_law_many" "_law_many" (defArgs s_l_many) (defBody s_l_many) (defScope s_l_many) .none kV_l_many dc_l_many pm_l_many an_l_many cd_l_many ct_l_many), sl_l_many⟩) (c_l_many : PySem.W.codeIn K cd_l_many "_law_many" = true) (k_l_many : PySem.W.keepIn K (.ref f_l_many) = true)
    (a_l_is_stand : PySem.W.nsIn K mainGlobals "_law_is_stand" = some (some (.ref f_l_is_stand))) (l_l_is_stand : K.lookup f_l_is_stand = some ⟨oc_l_is_stand, od_l_is_stand, .func (PySem.W.fnOf "_law_is_stand" "_law_is_stand" (defArgs s_l_is_stand) (defBody s_l_is_stand) (defScope s_l_is_stand) .none kV_l_is_stand dc_l_is_stand pm_l_is_stand an_l_is_stand cd_l_is_stand ct_l_is_stand), sl_l_is_stand⟩) (c_l_is_stand : PySem.W.codeIn K cd_l_is_stand "_law_is_stand" = true) (k_l_is_stand : PySem.W.keepIn K (.ref f_l_is_stand) = true)
    (a_l_below : PySem.W.nsIn K mainGlobals "_law_below" = some (some (.ref f_l_below))) (l_l_below : K.lookup f_l_below = some ⟨oc_l_below, od_l_below, .func (PySem.W.fnOf "_law_below" "_law_below" (defArgs s_l_below) (defBody s_l_below) (defScope s_l_below) .none kV_l_below dc_l_below pm_l_below an_l_below cd_l_below ct_l_below), sl_l_below⟩) (c_l_below : PySem.W.codeIn K cd_l_below "_law_below" = true) (k_l_below : PySem.W.keepIn K (.ref f_l_below) = true)
    (a_law : PySem.W.nsIn K mainGlobals "law" = some (some (.ref f_law))) (l_law : K.lookup f_law = some ⟨oc_law, od_law, .func (PySem.W.fnOf "law" "law" (defArgs s_law) (defBody s_law) (defScope s_law) .none kV_law dc_law pm_law an_law cd_law ct_law), sl_law⟩) (c_law : PySem.W.codeIn K cd_law "law" = true) (k_law : PySem.W.keepIn K (.ref f_law) = true)
    (z_len : PySem.W.nsIn K mainGlobals "len" = some none)
    (z_range : PySem.W.nsIn K mainGlobals "range" = some none)
    (z_sorted : PySem.W.nsIn K mainGlobals "sorted" = some none)
    (z_set : PySem.W.nsIn K mainGlobals "set" = some none)
    (z_list : PySem.W.nsIn K mainGlobals "list" = some none)
    (z_isinstance : PySem.W.nsIn K mainGlobals "isinstance" = some none)
    (z_int : PySem.W.nsIn K mainGlobals "int" = some none)
    (z_bool : PySem.W.nsIn K mainGlobals "bool" = some none)
    (z_min : PySem.W.nsIn K mainGlobals "min" = some none)
    (z_tuple : PySem.W.nsIn K mainGlobals "tuple" = some none)
    (n_MOST_PLANNED : PySem.W.nsIn K mainGlobals "MOST_PLANNED" = some (some (.int 3 tk_MOST_PLANNED)))
    (n_CAGE_SPOTS : PySem.W.nsIn K mainGlobals "CAGE_SPOTS" = some (some (.ref ta_CAGE_SPOTS)))
    (lt_CAGE_SPOTS : K.lookup ta_CAGE_SPOTS = some ⟨.type "tuple", to_CAGE_SPOTS, .seq #[.int 10 tk_CAGE_SPOTS_0, .int 11 tk_CAGE_SPOTS_1] tn_CAGE_SPOTS, ts_CAGE_SPOTS⟩)
    : ∃ Z : Adr, ∃ fd : FuncData, (∀ (s : Shared) (v : Value), BindsTo s fd ⟨[v], []⟩ [("_law_script", v)]) ∧ ∀ base : Heap, K.In base → base.Ns mainGlobals mg → FnOk l.prog w K mg base CX0 6 fa fd ["_law_script"] (SP_law K Z) := by
  have e := hfa.symm.trans (PySem.W.mg_of X G a_law)
  cases e
  let Z : Adr := ⟨ta_CAGE_SPOTS⟩
  have T : Txt K mg Z := ⟨PySem.W.mg_none_of X G z_len, PySem.W.mg_none_of X G z_range, PySem.W.mg_none_of X G z_sorted, PySem.W.mg_none_of X G z_set, PySem.W.mg_none_of X G z_list, PySem.W.mg_none_of X G z_isinstance, PySem.W.mg_none_of X G z_int, PySem.W.mg_none_of X G z_bool, PySem.W.mg_none_of X G z_min, PySem.W.mg_none_of X G z_tuple, ⟨_, PySem.W.mg_of X G n_MOST_PLANNED, ⟨_, rfl⟩⟩, ⟨_, PySem.W.mg_of X G n_CAGE_SPOTS, rfl⟩, fun H => .inr ⟨_, _, _, lt_CAGE_SPOTS, rfl, rfl, (by show 2 ≤ sizeLine; decide), .cons ⟨_, rfl⟩ (.cons ⟨_, rfl⟩ .nil)⟩⟩
  have F_drum_whole := fun_mk (st := s_drum_whole) l_drum_whole c_drum_whole k_drum_whole
  have D_drum_whole : Def K mg "drum_whole" s_drum_whole ["depths"] f_drum_whole _ := ⟨PySem.W.mg_of X G a_drum_whole, F_drum_whole, F_drum_whole.binds fun _ _ _ _ _ _ us hl => match us, hl with | [_], _ => rfl⟩
  have F_other_place := fun_mk (st := s_other_place) l_other_place c_other_place k_other_place
  have D_other_place : Def K mg "other_place" s_other_place ["depths", "place"] f_other_place _ := ⟨PySem.W.mg_of X G a_other_place, F_other_place, F_other_place.binds fun _ _ _ _ _ _ us hl => match us, hl with | [_, _], _ => rfl⟩
  have F_wound_place := fun_mk (st := s_wound_place) l_wound_place c_wound_place k_wound_place
  have D_wound_place : Def K mg "wound_place" s_wound_place ["depths", "cage", "level"] f_wound_place _ := ⟨PySem.W.mg_of X G a_wound_place, F_wound_place, F_wound_place.binds fun _ _ _ _ _ _ us hl => match us, hl with | [_, _, _], _ => rfl⟩
  have F_all_stops := fun_mk (st := s_all_stops) l_all_stops c_all_stops k_all_stops
  have D_all_stops : Def K mg "all_stops" s_all_stops ["depths"] f_all_stops _ := ⟨PySem.W.mg_of X G a_all_stops, F_all_stops, F_all_stops.binds fun _ _ _ _ _ _ us hl => match us, hl with | [_], _ => rfl⟩
  have F_all_stands := fun_mk (st := s_all_stands) l_all_stands c_all_stands k_all_stands
  have D_all_stands : Def K mg "all_stands" s_all_stands ["depths", "many"] f_all_stands _ := ⟨PySem.W.mg_of X G a_all_stands, F_all_stands, F_all_stands.binds fun _ _ _ _ _ _ us hl => match us, hl with | [_, _], _ => rfl⟩
  have F_spot_rows := fun_mk (st := s_spot_rows) l_spot_rows c_spot_rows k_spot_rows
  have D_spot_rows : Def K mg "spot_rows" s_spot_rows ["levels", "many"] f_spot_rows _ := ⟨PySem.W.mg_of X G a_spot_rows, F_spot_rows, F_spot_rows.binds fun _ _ _ _ _ _ us hl => match us, hl with | [_, _], _ => rfl⟩
  have F_l_whole := fun_mk (st := s_l_whole) l_l_whole c_l_whole k_l_whole
  have D_l_whole : Def K mg "_law_whole" s_l_whole ["_law_found"] f_l_whole _ := ⟨PySem.W.mg_of X G a_l_whole, F_l_whole, F_l_whole.binds fun _ _ _ _ _ _ us hl => match us, hl with | [_], _ => rfl⟩
  have F_l_at := fun_mk (st := s_l_at) l_l_at c_l_at k_l_at
  have D_l_at : Def K mg "_law_at" s_l_at ["_law_script", "_law_k"] f_l_at _ := ⟨PySem.W.mg_of X G a_l_at, F_l_at, F_l_at.binds fun _ _ _ _ _ _ us hl => match us, hl with | [_, _], _ => rfl⟩
  have F_l_draw := fun_mk (st := s_l_draw) l_l_draw c_l_draw k_l_draw
  have D_l_draw : Def K mg "_law_draw" s_l_draw ["_law_cell", "_law_k", "_law_span"] f_l_draw _ := ⟨PySem.W.mg_of X G a_l_draw, F_l_draw, F_l_draw.binds fun _ _ _ _ _ _ us hl => match us, hl with | [_, _, _], _ => rfl⟩
  have F_l_ints := fun_mk (st := s_l_ints) l_l_ints c_l_ints k_l_ints
  have D_l_ints : Def K mg "_law_ints" s_l_ints ["_law_found", "_law_due"] f_l_ints _ := ⟨PySem.W.mg_of X G a_l_ints, F_l_ints, F_l_ints.binds fun _ _ _ _ _ _ us hl => match us, hl with | [_, _], _ => rfl⟩
  have F_l_depths := fun_mk (st := s_l_depths) l_l_depths c_l_depths k_l_depths
  have D_l_depths : Def K mg "_law_depths" s_l_depths ["_law_cell"] f_l_depths _ := ⟨PySem.W.mg_of X G a_l_depths, F_l_depths, F_l_depths.binds fun _ _ _ _ _ _ us hl => match us, hl with | [_], _ => rfl⟩
  have F_l_stops := fun_mk (st := s_l_stops) l_l_stops c_l_stops k_l_stops
  have D_l_stops : Def K mg "_law_stops" s_l_stops ["_law_depths_here"] f_l_stops _ := ⟨PySem.W.mg_of X G a_l_stops, F_l_stops, F_l_stops.binds fun _ _ _ _ _ _ us hl => match us, hl with | [_], _ => rfl⟩
  have F_l_many := fun_mk (st := s_l_many) l_l_many c_l_many k_l_many
  have D_l_many : Def K mg "_law_many" s_l_many ["_law_cell", "_law_levels"] f_l_many _ := ⟨PySem.W.mg_of X G a_l_many, F_l_many, F_l_many.binds fun _ _ _ _ _ _ us hl => match us, hl with | [_, _], _ => rfl⟩
  have F_l_is_stand := fun_mk (st := s_l_is_stand) l_l_is_stand c_l_is_stand k_l_is_stand
  have D_l_is_stand : Def K mg "_law_is_stand" s_l_is_stand ["_law_found", "_law_many_here", "_law_levels", "_law_places"] f_l_is_stand _ := ⟨PySem.W.mg_of X G a_l_is_stand, F_l_is_stand, F_l_is_stand.binds fun _ _ _ _ _ _ us hl => match us, hl with | [_, _, _, _], _ => rfl⟩
  have F_l_below := fun_mk (st := s_l_below) l_l_below c_l_below k_l_below
  have D_l_below : Def K mg "_law_below" s_l_below ["_law_one", "_law_two"] f_l_below _ := ⟨PySem.W.mg_of X G a_l_below, F_l_below, F_l_below.binds fun _ _ _ _ _ _ us hl => match us, hl with | [_, _], _ => rfl⟩
  have F_law := fun_mk (st := s_law) l_law c_law k_law
  refine ⟨Z, PySem.W.fnOf "law" "law" (defArgs s_law) (defBody s_law) (defScope s_law) .none kV_law dc_law pm_law an_law cd_law ct_law, fun s v => .of_eq rfl, fun base _ _ => ?_⟩
  have G_drum_whole : FnOk l.prog w K mg base CX0 1 f_drum_whole _ ["depths"] (SP_drum_whole K Z) := ok_drum_whole F_drum_whole T
  have G_spot_rows : FnOk l.prog w K mg base CX0 1 f_spot_rows _ ["levels", "many"] (SP_spot_rows K Z) := ok_spot_rows F_spot_rows T
  have G_l_whole : FnOk l.prog w K mg base CX0 1 f_l_whole _ ["_law_found"] (SP_l_whole K Z) := ok_l_whole F_l_whole T
  have G_l_at : FnOk l.prog w K mg base CX0 1 f_l_at _ ["_law_script", "_law_k"] (SP_l_at K Z) := ok_l_at F_l_at T
  have G_l_draw : FnOk l.prog w K mg base CX0 1 f_l_draw _ ["_law_cell", "_law_k", "_law_span"] (SP_l_draw K Z) := ok_l_draw F_l_draw T
  have G_l_ints : FnOk l.prog w K mg base CX0 1 f_l_ints _ ["_law_found", "_law_due"] (SP_l_ints K Z) := ok_l_ints F_l_ints T
  have G_l_stops : FnOk l.prog w K mg base CX0 1 f_l_stops _ ["_law_depths_here"] (SP_l_stops K Z) := ok_l_stops F_l_stops T
  have G_l_below : FnOk l.prog w K mg base CX0 1 f_l_below _ ["_law_one", "_law_two"] (SP_l_below K Z) := ok_l_below F_l_below T
  have G_other_place : FnOk l.prog w K mg base CX0 2 f_other_place _ ["depths", "place"] (SP_other_place K Z) := ok_other_place F_other_place T D_drum_whole G_drum_whole
  have G_l_depths : FnOk l.prog w K mg base CX0 2 f_l_depths _ ["_law_cell"] (SP_l_depths K Z) := ok_l_depths F_l_depths T D_l_draw G_l_draw
  have G_l_many : FnOk l.prog w K mg base CX0 2 f_l_many _ ["_law_cell", "_law_levels"] (SP_l_many K Z) := ok_l_many F_l_many T D_l_draw G_l_draw
  have G_l_is_stand : FnOk l.prog w K mg base CX0 2 f_l_is_stand _ ["_law_found", "_law_many_here", "_law_levels", "_law_places"] (SP_l_is_stand K Z) := ok_l_is_stand F_l_is_stand T D_l_whole G_l_whole
  have G_wound_place : FnOk l.prog w K mg base CX0 3 f_wound_place _ ["depths", "cage", "level"] (SP_wound_place K Z) := ok_wound_place F_wound_place T D_other_place G_other_place
  have G_all_stops : FnOk l.prog w K mg base CX0 4 f_all_stops _ ["depths"] (SP_all_stops K Z) := ok_all_stops F_all_stops T D_wound_place G_wound_place
  have G_all_stands : FnOk l.prog w K mg base CX0 5 f_all_stands _ ["depths", "many"] (SP_all_stands K Z) := ok_all_stands F_all_stands T D_spot_rows G_spot_rows D_all_stops G_all_stops
  exact ok_law F_law T D_l_depths G_l_depths D_l_many G_l_many D_all_stands G_all_stands D_l_stops G_l_stops D_l_at G_l_at D_l_whole G_l_whole D_l_ints G_l_ints D_l_is_stand G_l_is_stand D_l_below G_l_below
theorem spLaw_any {K : PySem.W.Frag} {Z : Adr} {H : Hp} {a : Addr} {ns : List Int} (hl : ns.length ≤ 63) (hS : SqL K H a (ns.map V.int)) {Q : VK} {E : XK} (q : ∀ H', Q (.bl true) H') : SP_law K Z [.ref a] H Q E := ⟨a, ns, rfl, hS, hl, q⟩
def SPl (K : PySem.W.Frag) : Sp := fun vs H Q _ => ∃ (a : Addr) (ns : List Int), vs = [.ref a] ∧ SqL K H a (ns.map V.int) ∧ ns.length ≤ 63 ∧ ∀ H', Q (.bl true) H'
theorem walk {l : PySem.W.OpenLaw} {q : Program} {loose : List Str} {XP : (Str → Option Value) → Heap → Prop} {YP : World → Heap → Prop} {d : DefRec} {K : Params → PySem.W.Frag} (hn : l.most = some 63) (hdf : d.params.defaults = [])
    (hY : ∀ (w : World) (h : Heap), YP w h → (K w.params).In h)
    (F : ∀ (w : World) (mg : Str → Option Value) (fa : Addr) (h : Heap), (K w.params).In h → h.Ns mainGlobals mg → mg d.name = some (.ref fa) →
      ∃ Z : Adr, ∃ fd : FuncData, (∀ (s : Shared) (u : Value), BindsTo s fd ⟨[u], []⟩ [("_law_script", u)]) ∧ ∀ base : Heap, (K w.params).In base → base.Ns mainGlobals mg → FnOk l.prog w (K w.params) mg base CX0 6 fa fd ["_law_script"] (SP_law (K w.params) Z)) :
    PySem.W.WalkO q loose XP YP l.row.toRowW d [] (fun f vs => PySem.call f vs) :=
  L2.walk_of (n := 63) (k := 6) (x := "_law_script") (CX := fun _ => CX0) (sp := fun w => SPl (K w.params)) hn (by decide) hdf ⟨rfl, by decide, by decide⟩ hY
    (fun w mg fa h a b c => let ⟨Z, fd, b1, b2⟩ := F w mg fa h a b c; ⟨fd, b1, fun base x y => (b2 base x y).imp fun vs H Q E ⟨a, ns, e, hS, hl, q⟩ => by subst e; exact spLaw_any hl hS q⟩) (fun _ _ a ns hl _ hS => ⟨a, ns, rfl, hS, hl, fun _ => rfl⟩) fun _ _ _ _ _ z => z
end K16
open PySem PySem.W PyProof.Rows
set_option maxRecDepth 100000 in
set_option maxHeartbeats 0 in
theorem PySem.Challenge.cw_cagebells_k16_every_stand_holds : PySem.Challenge.rw_cagebells_k16_every_stand.Holds := by
  w_on; o_law; k_head; (case hw => w_witness2)
  k_fill
  refine K16.walk (l := PySem.Challenge.rw_cagebells_k16_every_stand) rfl rfl (fun w h Y => PySem.W.kIn_of Y) ?F
  case F =>
    intro w mg fa h KX G hmg
    refine' K16.all_mk KX G hmg ?a_drum_whole ?l_drum_whole ?c_drum_whole ?k_drum_whole ?a_other_place ?l_other_place ?c_other_place ?k_other_place ?a_wound_place ?l_wound_place ?c_wound_place ?k_wound_place ?a_all_stops ?l_all_stops ?c_all_stops ?k_all_stops ?a_all_stands ?l_all_stands ?c_all_stands ?k_all_stands ?a_spot_rows ?l_spot_rows ?c_spot_rows ?k_spot_rows ?a_l_whole ?l_l_whole ?c_l_whole ?k_l_whole ?a_l_at ?l_l_at ?c_l_at ?k_l_at ?a_l_draw ?l_l_draw ?c_l_draw ?k_l_draw ?a_l_ints ?l_l_ints ?c_l_ints ?k_l_ints ?a_l_depths ?l_l_depths ?c_l_depths ?k_l_depths ?a_l_stops ?l_l_stops ?c_l_stops ?k_l_stops ?a_l_many ?l_l_many ?c_l_many ?k_l_many ?a_l_is_stand ?l_l_is_stand ?c_l_is_stand ?k_l_is_stand ?a_l_below ?l_l_below ?c_l_below ?k_l_below ?a_law ?l_law ?c_law ?k_law ?z_len ?z_range ?z_sorted ?z_set ?z_list ?z_isinstance ?z_int ?z_bool ?z_min ?z_tuple ?n_MOST_PLANNED ?n_CAGE_SPOTS ?lt_CAGE_SPOTS
    (case a_drum_whole => k_is)
    (case l_drum_whole => k_is)
    (case c_drum_whole => k_is)
    (case k_drum_whole => k_is)
    (case a_other_place => k_is)
    (case l_other_place => k_is)
    (case c_other_place => k_is)
    (case k_other_place => k_is)
    (case a_wound_place => k_is)
    (case l_wound_place => k_is)
    (case c_wound_place => k_is)
    (case k_wound_place => k_is)
    (case a_all_stops => k_is)
    (case l_all_stops => k_is)
    (case c_all_stops => k_is)
    (case k_all_stops => k_is)
    (case a_all_stands => k_is)
    (case l_all_stands => k_is)
    (case c_all_stands => k_is)
    (case k_all_stands => k_is)
    (case a_spot_rows => k_is)
    (case l_spot_rows => k_is)
    (case c_spot_rows => k_is)
    (case k_spot_rows => k_is)
    (case a_l_whole => k_is)
    (case l_l_whole => k_is)
    (case c_l_whole => k_is)
    (case k_l_whole => k_is)
    (case a_l_at => k_is)
    (case l_l_at => k_is)
    (case c_l_at => k_is)
    (case k_l_at => k_is)
    (case a_l_draw => k_is)
    (case l_l_draw => k_is)
    (case c_l_draw => k_is)
    (case k_l_draw => k_is)
    (case a_l_ints => k_is)
    (case l_l_ints => k_is)
    (case c_l_ints => k_is)
    (case k_l_ints => k_is)
    (case a_l_depths => k_is)
    (case l_l_depths => k_is)
    (case c_l_depths => k_is)
    (case k_l_depths => k_is)
    (case a_l_stops => k_is)
    (case l_l_stops => k_is)
    (case c_l_stops => k_is)
    (case k_l_stops => k_is)
    (case a_l_many => k_is)
    (case l_l_many => k_is)
    (case c_l_many => k_is)
    (case k_l_many => k_is)
    (case a_l_is_stand => k_is)
    (case l_l_is_stand => k_is)
    (case c_l_is_stand => k_is)
    (case k_l_is_stand => k_is)
    (case a_l_below => k_is)
    (case l_l_below => k_is)
    (case c_l_below => k_is)
    (case k_l_below => k_is)
    (case a_law => k_is)
    (case l_law => k_is)
    (case c_law => k_is)
    (case k_law => k_is)
    (case z_len => k_is)
    (case z_range => k_is)
    (case z_sorted => k_is)
    (case z_set => k_is)
    (case z_list => k_is)
    (case z_isinstance => k_is)
    (case z_int => k_is)
    (case z_bool => k_is)
    (case z_min => k_is)
    (case z_tuple => k_is)
    (case n_MOST_PLANNED => k_is)
    (case n_CAGE_SPOTS => k_is)
    (case lt_CAGE_SPOTS => k_is)
