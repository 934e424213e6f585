import PyProof.Rows.All
import Wide.All
import OpenK.AllK
import Wide.FinOn
import Lean
import PyProof.EqAt
import PyProof.EqKinds
import PyProof.TupleCall
import PySem.Challenge.RW_cagebells_k24_gates_turned
set_option Elab.async false
set_option linter.all false
set_option maxRecDepth 100000
namespace L2
open PySem PySem.Spec PyProof.Rows

/-- a key: an int or a str -/
abbrev Key := Sum Int Str
def keyIs : Key → Value → Bool
  | .inl k, v => Value.isInt k v
  | .inr x, v => Value.isStrOf x v
def keyH (w : World) : Key → Int
  | .inl k => hashInt k
  | .inr x => hashStr w x
theorem keyIs_shape : ∀ {k : Key} {v : Value}, keyIs k v = true → (∃ i t, k = Sum.inl i ∧ v = Value.int i t) ∨ (∃ x t, k = Sum.inr x ∧ v = Value.str x t)
  | .inl i, v, h => by
    obtain ⟨t, e⟩ := Value.isInt_shape (k := i) (v := v) h
    exact .inl ⟨i, t, rfl, e⟩
  | .inr x, v, h => by
    obtain ⟨t, e⟩ := Value.isStrOf_shape (x := x) (v := v) h
    exact .inr ⟨x, t, rfl, e⟩
theorem key_ll (a b : Int) : decide ((Sum.inl a : Key) = Sum.inl b) = (a == b) := by
  by_cases e : a = b
  · subst e; simp
  · have h : ¬ (Sum.inl a : Key) = Sum.inl b := fun q => e (Sum.inl.inj q)
    rw [decide_eq_false h]
    exact (beq_eq_false_iff_ne.mpr e).symm
theorem key_rr (a b : Str) : decide ((Sum.inr a : Key) = Sum.inr b) = decide (a = b) := by
  by_cases e : a = b
  · subst e; simp
  · have h : ¬ (Sum.inr a : Key) = Sum.inr b := fun q => e (Sum.inr.inj q)
    rw [decide_eq_false h, decide_eq_false e]
theorem key_lr (a : Int) (b : Str) : decide ((Sum.inl a : Key) = Sum.inr b) = false := decide_eq_false (fun q => nomatch q)
theorem key_rl (a : Str) (b : Int) : decide ((Sum.inr a : Key) = Sum.inl b) = false := decide_eq_false (fun q => nomatch q)

def mixKind (prog : Program) (w : World) : PySem.KeyKind prog w Key where
  is := keyIs
  hash := keyH w
  inj := fun v a b ha hb => by
    rcases keyIs_shape ha with ⟨i, t, rfl, rfl⟩ | ⟨x, t, rfl, rfl⟩
    · rcases keyIs_shape hb with ⟨j, u, rfl, e⟩ | ⟨y, u, rfl, e⟩
      · injection e with e1 _; rw [e1]
      · exact nomatch e
    · rcases keyIs_shape hb with ⟨j, u, rfl, e⟩ | ⟨y, u, rfl, e⟩
      · exact nomatch e
      · injection e with e1 _; rw [e1]
  byValue := fun k v h => by
    rcases keyIs_shape h with ⟨i, t, rfl, rfl⟩ | ⟨x, t, rfl, rfl⟩ <;> rfl
  pyHash := fun hv h => by
    rcases keyIs_shape hv with ⟨i, t, rfl, rfl⟩ | ⟨x, t, rfl, rfl⟩
    · exact wpAny_pyHash_int h
    · exact wpAny_pyHash_str h
  eqBool := fun hu hv h => by
    rcases keyIs_shape hu with ⟨i, t, rfl, rfl⟩ | ⟨x, t, rfl, rfl⟩
    · rcases keyIs_shape hv with ⟨j, u, rfl, rfl⟩ | ⟨y, u, rfl, rfl⟩
      · rw [key_ll] at h; exact wpAny_eqBool_int h
      · rw [key_lr] at h; exact SeqAt.EqAt.int_str i t y u _ _ _ _ h
    · rcases keyIs_shape hv with ⟨j, u, rfl, rfl⟩ | ⟨y, u, rfl, rfl⟩
      · rw [key_rl] at h; exact SeqAt.EqAt.str_int x t j u _ _ _ _ h
      · rw [key_rr] at h; exact wpAny_eqBool_str h
  «strs» := fun k x t v h => by
    rcases keyIs_shape h with ⟨i, u, rfl, e⟩ | ⟨y, u, rfl, e⟩
    · exact nomatch e
    · injection e with e1 _
      subst e1
      cases v <;> rfl

end L2

namespace L2
open PySem PySem.Spec PyProof.Rows

/-- a value, without the heap -/
inductive V where
  | non | bl (b : Bool) | int (i : Int) | str (x : Str) | byt (b : Array UInt8) | flt (b : UInt64) | ref (a : Addr) | ty (n : String)
  deriving DecidableEq

def RelV : V → Value → Prop
  | .non, u => u = Value.none
  | .bl b, u => u = Value.bool b
  | .int i, u => ∃ t, u = Value.int i t
  | .str x, u => ∃ t, u = Value.str x t
  | .byt b, u => ∃ t, u = Value.bytes b t
  | .flt b, u => ∃ t, u = Value.float b t
  | .ref a, u => u = Value.ref a
  | .ty n, u => u = Value.type n

abbrev Vals : List V → List Value → Prop := Paired RelV
theorem Vals.length {xs : List V} {us : List Value} (r : Vals xs us) : xs.length = us.length := Paired.length r
theorem Vals.get : ∀ {xs : List V} {us : List Value} {i : Nat} {x : V}, Vals xs us → xs[i]? = some x → ∃ u, us[i]? = some u ∧ RelV x u
  | _, _, _, _, .nil, e => by simp at e
  | _, _, 0, _, .cons r _, e => by simp at e; subst e; exact ⟨_, rfl, r⟩
  | _, _, i + 1, x, .cons _ t, e => by
    obtain ⟨u, h1, h2⟩ := Vals.get (i := i) (x := x) t (by simpa using e)
    exact ⟨u, by simpa using h1, h2⟩
theorem Vals.set {x : V} {u : Value} (r : RelV x u) : ∀ {xs : List V} {us : List Value} (i : Nat), Vals xs us → Vals (xs.set i x) (us.set i u)
  | _, _, _, .nil => .nil
  | _, _, 0, .cons _ t => .cons r t
  | _, _, i + 1, .cons q t => .cons q (Vals.set r i t)
theorem Vals.append : ∀ {xs ys : List V} {us ws : List Value}, Vals xs us → Vals ys ws → Vals (xs ++ ys) (us ++ ws)
  | _, _, _, _, .nil, s => s
  | _, _, _, _, .cons r t, s => .cons r (Vals.append t s)
theorem Vals.take : ∀ {xs : List V} {us : List Value} (n : Nat), Vals xs us → Vals (xs.take n) (us.take n)
  | _, _, 0, _ => .nil
  | _, _, _ + 1, .nil => .nil
  | _, _, n + 1, .cons r t => .cons r (Vals.take n t)
theorem Vals.drop : ∀ {xs : List V} {us : List Value} (n : Nat), Vals xs us → Vals (xs.drop n) (us.drop n)
  | _, _, 0, r => r
  | _, _, _ + 1, .nil => .nil
  | _, _, n + 1, .cons _ t => Vals.drop n t
theorem Vals.none_of : ∀ {xs : List V} {us : List Value} {i : Nat}, Vals xs us → xs[i]? = none → us[i]? = none := fun {xs us i} r e => by
  have h1 := r.length
  have h2 : xs.length ≤ i := List.getElem?_eq_none_iff.mp e
  exact List.getElem?_eq_none_iff.mpr (by omega)

def RelO : Option V → Option Value → Prop
  | some v, some u => RelV v u
  | none, none => True
  | _, _ => False
def KV {κ : Type} : List (κ × V) → List (κ × Value) → Prop := Paired fun (p : κ × V) (q : κ × Value) => p.1 = q.1 ∧ RelV p.2 q.2

/-- a key of a dict (00_mix): an int or a text -/
def kV : Key → V
  | .inl i => .int i
  | .inr x => .str x

/-- what stands at a tracked address -/
inductive HO where
  /-- a list -/
  | lst (xs : List V)
  /-- a tuple (never changes) -/
  | tup (xs : List V)
  /-- a dict whose keys are ints and texts; one whose keys are tuples of ints and texts (the empty one is both) -/
  | dK (kvs : List (Key × V)) | dT (kvs : List (List Key × V))
  /-- a set of ints: its members, its size -/
  | set (S : Int → Bool) (n : Nat)
  /-- an instance of the class at C, its dict at dx, its attributes -/
  | ins (C dx : Addr) (fs : List (Str × V))
  /-- the dict of the instance at x -/
  | own (x : Addr)
  /-- the dict of an exception -/
  | xd (fs : List (Str × V))
  /-- a bound method, f of x -/
  | met (f x : Addr)
  /-- a range object lo, lo + 1, .. below hi -/
  | rng (lo hi : Int)
  /-- a thing that is known to the object (the script; a dict while a loop walks it): read, never written while it is so -/
  | frz (o : Obj) (u : HO)
  /-- a code object's table -/
  | tbl (ps : Array Value)
  /-- any other thing, by what is true of its one object (a def of one's own: SetO a S n := HO.ext fun h => ..) -/
  | ext (φ : Heap → Prop)

abbrev Hp := Addr → Option HO
def upd (H : Hp) (a : Addr) (o : HO) : Hp := fun b => if b = a then some o else H b
theorem upd_same {H : Hp} {a : Addr} {o : HO} : upd H a o a = some o := by unfold upd; rw [if_pos rfl]
theorem upd_ne {H : Hp} {a b : Addr} {o : HO} (h : b ≠ a) : upd H a o b = H b := by unfold upd; rw [if_neg h]
theorem upd_upd {H : Hp} {a : Addr} {o u : HO} : upd (upd H a o) a u = upd H a u := by
  funext b; unfold upd; split <;> rfl
theorem ne_of_none {H : Hp} {a b : Addr} {o : HO} (h : H a = some o) (h' : H b = none) : a ≠ b := by
  intro e; subst e; rw [h] at h'; cases h'

def IsTup0 (h : Heap) (a : Addr) (items : Array Value) : Prop := ∃ o, h.get? a = some o ∧ (o.cls = .type "tuple" ∧ ∃ n, o.data = .seq items n) ∧ o.dict = none
theorem IsTup0.tup {h : Heap} {a : Addr} {items : Array Value} (x : IsTup0 h a items) : IsTup h a items := let ⟨o, e, c, _⟩ := x; ⟨o, e, c⟩
theorem IsTup0.lt {h : Heap} {a : Addr} {items : Array Value} (x : IsTup0 h a items) : a < h.objs.size := let ⟨_, e, _⟩ := x; Heap.lt_size e
theorem IsTup0.new (h : Heap) (items : Array Value) : IsTup0 (h.push { cls := .type "tuple", data := .seq items }) h.objs.size items := ⟨_, Heap.get?_push_size _ rfl, ⟨rfl, _, rfl⟩, rfl⟩
section
variable (P : Program) (w : World)
def ObjOk (H : Hp) (h : Heap) (a : Addr) : HO → Prop
  | .lst xs => xs.length ≤ sizeLine ∧ ∃ (its : List Value) (n : Nat), Vals xs its ∧ h.get? a = some { cls := .type "list", data := .seq its.toArray n }
  | .tup xs => xs.length ≤ sizeLine ∧ ∃ its : List Value, Vals xs its ∧ IsTup0 h a its.toArray
  | .dK kvs => kvs.length ≤ sizeLine ∧ (a == sysModules) = false ∧ ∃ vs, KV kvs vs ∧ h.DictOf (mixKind P w) a vs
  | .dT kvs => kvs.length ≤ sizeLine ∧ (a == sysModules) = false ∧ ∃ xs : List (List Key × Addr × Value),
      Paired (fun (p : List Key × V) (q : List Key × Addr × Value) => p.1 = q.1 ∧ H q.2.1 = some (.tup (p.1.map kV)) ∧ RelV p.2 q.2.2) kvs xs ∧
      ∃ o es ep, h.get? a = some o ∧ o.ExactDict ∧ o.data = .dict es ep ∧ es.toList = xs.map (entryOfKey (tupleKind (mixKind P w))) ∧ (xs.map (·.1)).Nodup
  | .set S n => h.SetOf (intKind P w) a S n
  | .ins C dx fs => H dx = some (.own a) ∧ fs.length ≤ 1000 ∧ dx ≠ a ∧ h.get? a = some (PySem.W.instObj C dx) ∧
      ∃ mA, h.Ns1 dx mA ∧ (∀ f, RelO (fs.lookup f) (mA f)) ∧ PySem.Within mA (fs.map (·.1))
  | .own _ => ∃ o, h.get? a = some o
  | .xd fs => ∃ mA, h.Ns1 a mA ∧ ∀ f, RelO (fs.lookup f) (mA f)
  | .rng lo hi => ∃ t u v, h.get? a = some { cls := .type "range", data := .fields #[.int lo t, .int hi u, .int 1 v] }
  | .frz o u => h.get? a = some o ∧ ObjOk H h a u
  | .tbl ps => h.get? a = some { cls := .none, data := .fields ps }
  | .met f x => h.get? a = some (PySem.W.methodObj (.ref f) (.ref x))
  | .ext φ => φ h ∧ (∃ o, h.get? a = some o) ∧ ∀ h1 h2 : Heap, φ h1 → (∀ o, h1.get? a = some o → h2.get? a = some o) → φ h2
/-- the abstract heap is held -/
def HOk (H : Hp) (h : Heap) : Prop := ∀ a o, H a = some o → ObjOk P w H h a o
end

section
variable {P : Program} {w : World} {H H' : Hp} {h h' : Heap} {a : Addr} {o : HO}
theorem ObjOk.lt (x : ObjOk P w H h a o) : a < h.objs.size := by
  cases o with
  | lst xs => obtain ⟨_, _, _, _, e⟩ := x; exact Heap.lt_size e
  | tup xs => obtain ⟨_, _, _, p⟩ := x; exact p.lt
  | dK kvs => obtain ⟨_, _, _, _, o, _, _, e, _⟩ := x; exact Heap.lt_size e
  | dT kvs => obtain ⟨_, _, _, _, o, _, _, e, _⟩ := x; exact Heap.lt_size e
  | set S n => obtain ⟨o, _, _, _, e, _⟩ := x; exact Heap.lt_size e
  | ins C dx fs => obtain ⟨_, _, _, e, _⟩ := x; exact Heap.lt_size e
  | own y => obtain ⟨_, e⟩ := x; exact Heap.lt_size e
  | xd fs => obtain ⟨_, ⟨_, _, _, e, _⟩, _⟩ := x; exact Heap.lt_size e
  | rng lo hi => obtain ⟨_, _, _, e⟩ := x; exact Heap.lt_size e
  | frz ob u => obtain ⟨e, _⟩ := x; exact Heap.lt_size e
  | tbl ps => exact Heap.lt_size (show h.get? a = some _ from x)
  | met f y => exact Heap.lt_size (show h.get? a = some _ from x)
  | ext φ => obtain ⟨_, ⟨_, e⟩, _⟩ := x; exact Heap.lt_size e
theorem Paired.mapP {α β : Type} {F G : α → β → Prop} : ∀ {l₁ : List α} {l₂ : List β}, Paired F l₁ l₂ → (∀ a b, F a b → G a b) → Paired G l₁ l₂
  | _, _, .nil, _ => .nil
  | _, _, .cons r t, f => .cons (f _ _ r) (Paired.mapP t f)
/-- what an object's description leans on: its own object, its own dict, the tuples -/
theorem ObjOk.stay (x : ObjOk P w H h a o) (k : ∀ b u, (b = a ∨ H b = some (.own a)) → h.get? b = some u → h'.get? b = some u)
    (ho : ∀ b, H b = some (.own a) → H' b = some (.own a)) (ht : ∀ b xs, H b = some (.tup xs) → H' b = some (.tup xs)) : ObjOk P w H' h' a o := by
  induction o with
  | lst xs => obtain ⟨z, its, n, r, e⟩ := x; exact ⟨z, its, n, r, k _ _ (.inl rfl) e⟩
  | tup xs => obtain ⟨z, its, r, ob, e, c⟩ := x; exact ⟨z, its, r, ob, k _ _ (.inl rfl) e, c⟩
  | dK kvs => obtain ⟨z, y, vs, r, ob, es, ep, e, c⟩ := x; exact ⟨z, y, vs, r, ob, es, ep, k _ _ (.inl rfl) e, c⟩
  | dT kvs =>
    obtain ⟨z, y, xs, r, ob, es, ep, e, c⟩ := x
    exact ⟨z, y, xs, Paired.mapP r fun p q z => ⟨z.1, ht _ _ z.2.1, z.2.2⟩, ob, es, ep, k _ _ (.inl rfl) e, c⟩
  | set S n => obtain ⟨ob, es, ep, t, e, c⟩ := x; exact ⟨ob, es, ep, t, k _ _ (.inl rfl) e, c⟩
  | ins C dx fs =>
    obtain ⟨d, z, ne, e, mA, ⟨od, es, ep, e2, c⟩, r⟩ := x
    exact ⟨ho _ d, z, ne, k _ _ (.inl rfl) e, mA, ⟨od, es, ep, k _ _ (.inr d) e2, c⟩, r⟩
  | own y => obtain ⟨ob, e⟩ := x; exact ⟨ob, k _ _ (.inl rfl) e⟩
  | xd fs => obtain ⟨mA, ⟨od, es, ep, e, c⟩, r⟩ := x; exact ⟨mA, ⟨od, es, ep, k _ _ (.inl rfl) e, c⟩, r⟩
  | rng lo hi => obtain ⟨t, u, v, e⟩ := x; exact ⟨t, u, v, k _ _ (.inl rfl) e⟩
  | frz ob u ih => obtain ⟨e, q⟩ := x; exact ⟨k _ _ (.inl rfl) e, ih q⟩
  | tbl ps =>
    have e : h.get? a = some { cls := .none, data := .fields ps } := x
    show h'.get? a = some { cls := .none, data := .fields ps }
    exact k a _ (.inl rfl) e
  | met f y =>
    have e : h.get? a = some (PySem.W.methodObj (.ref f) (.ref y)) := x
    show h'.get? a = some (PySem.W.methodObj (.ref f) (.ref y))
    exact k a _ (.inl rfl) e
  | ext φ => obtain ⟨p, ⟨o, e⟩, st⟩ := x; exact ⟨st _ _ p fun o q => k _ _ (.inl rfl) q, ⟨o, k _ _ (.inl rfl) e⟩, st⟩
theorem HOk.lt (x : HOk P w H h) (e : H a = some o) : a < h.objs.size := (x a o e).lt
theorem HOk.fresh (x : HOk P w H h) (e : h.objs.size ≤ a) : H a = none := by
  cases q : H a with
  | none => rfl
  | some u => exact absurd (Nat.lt_of_lt_of_le (x.lt q) e) (Nat.lt_irrefl _)
/-- every object of the heap is kept -/
theorem HOk.kept (x : HOk P w H h) (k : ∀ b u, h.get? b = some u → h'.get? b = some u) : HOk P w H h' := fun a o e =>
  (x a o e).stay (fun b u _ q => k b u q) (fun _ q => q) fun _ _ q => q
/-- a new object is laid and tracked -/
theorem HOk.laid (x : HOk P w H h) (k : ∀ b u, h.get? b = some u → h'.get? b = some u) (hp : h.objs.size ≤ a) (new : ObjOk P w (upd H a o) h' a o) : HOk P w (upd H a o) h' := fun b u e => by
  have hn := x.fresh hp
  by_cases hb : b = a
  · subst hb; rw [upd_same] at e; cases e; exact new
  · rw [upd_ne hb] at e
    exact (x b u e).stay (fun c v _ q => k c v q) (fun c q => by rw [upd_ne (ne_of_none q hn)]; exact q) fun c xs q => by rw [upd_ne (ne_of_none q hn)]; exact q
end

/-- what may be read as u: it is u, or a known u -/
def Rd (H : Hp) (a : Addr) (u : HO) : Prop := H a = some u ∨ ∃ o, H a = some (.frz o u)
theorem Rd.of {H : Hp} {a : Addr} {u : HO} (h : H a = some u) : Rd H a u := .inl h
theorem Rd.ok {P : Program} {w : World} {H : Hp} {h : Heap} {a : Addr} {u : HO} (r : Rd H a u) (x : HOk P w H h) : ObjOk P w H h a u := by
  rcases r with r | ⟨o, r⟩
  · exact x a u r
  · obtain ⟨_, q⟩ := x a _ r
    exact q
/-- what may be written -/
def Mut : Option HO → Prop
  | some (.lst _) => True
  | some (.dK _) => True
  | some (.dT _) => True
  | some (.set _ _) => True
  | some (.ins _ _ _) => True
  | some (.ext _) => True
  | _ => False
section
variable {P : Program} {w : World} {H : Hp} {h h' : Heap} {x e : Addr} {o' : HO}
/-- the object at e is changed: x itself, or the dict of the instance x -/
theorem HOk.write (ok : HOk P w H h) (mu : Mut (H x)) (he : e = x ∨ H e = some (.own x)) (k : ∀ b u, b ≠ e → h.get? b = some u → h'.get? b = some u) (heo : ∃ u, h'.get? e = some u)
    (new : ObjOk P w (upd H x o') h' x o') : HOk P w (upd H x o') h' := fun b u q => by
  have nown : ∀ c y, H c = some (.own y) → c ≠ x := fun c y r z => by subst z; rw [r] at mu; exact mu
  have ntup : ∀ c xs, H c = some (.tup xs) → c ≠ x := fun c xs r z => by subst z; rw [r] at mu; exact mu
  by_cases hb : b = x
  · subst hb; rw [upd_same] at q; cases q; exact new
  · rw [upd_ne hb] at q
    by_cases hbe : b = e
    · have q' : H b = some (.own x) := by
        rcases he with z | z
        · exact absurd (hbe.trans z) hb
        · rw [hbe]; exact z
      rw [q] at q'; cases q'
      obtain ⟨v, hv⟩ := heo
      exact ⟨v, by rw [hbe]; exact hv⟩
    · refine (ok b u q).stay (fun c v hc r => k c v ?_ r) (fun c r => by rw [upd_ne (nown c b r)]; exact r) fun c xs r => by rw [upd_ne (ntup c xs r)]; exact r
      rcases hc with rfl | hc
      · exact hbe
      · rintro rfl
        rcases he with z | z
        · exact nown c b hc z
        · rw [hc] at z; cases z; exact hb rfl
end

/-! ### kept unless tracked; of the frames at fs (the callers') the slots may change (an exception that passes writes there); of the records at ex (iterators) nothing is said -/
structure Un (fs ex : List Addr) (H H' : Hp) (h h' : Heap) : Prop where
  keep : ∀ b o, h.get? b = some o → H b = none → b ∉ fs → b ∉ ex → h'.get? b = some o
  slot : ∀ b o, h.get? b = some o → H b = none → b ∈ fs → b ∉ ex → ∃ sl, h'.get? b = some { o with slots := sl }
  free : ∀ b o, h.get? b = some o → H b = none → b ∉ ex → H' b = none
  there : ∀ b o, h.get? b = some o → b ∉ ex → ∃ o', h'.get? b = some o'
  tups : ∀ b xs, H b = some (.tup xs) → H' b = some (.tup xs)
  frzs : ∀ b o u, H b = some (.frz o u) → H' b = some (.frz o u)
  tbls : ∀ b ps, H b = some (.tbl ps) → ∃ more, H' b = some (.tbl (ps ++ more))
section
variable {fs fs' ex ex' : List Addr} {H H1 H2 : Hp} {h h1 h2 h' : Heap} {a x e : Addr} {o : HO}
theorem Un.any (u : Un fs ex H H1 h h1) {b : Addr} {ob : Obj} (q : h.get? b = some ob) (n : H b = none) (hx : b ∉ ex) : ∃ sl, h1.get? b = some { ob with slots := sl } := by
  by_cases hb : b ∈ fs
  · exact u.slot b ob q n hb hx
  · exact ⟨ob.slots, u.keep b ob q n hb hx⟩
theorem Un.trans (a : Un fs ex H H1 h h1) (b : Un fs ex H1 H2 h1 h2) : Un fs ex H H2 h h2 where
  keep := fun c ob q n hc hx => b.keep c ob (a.keep c ob q n hc hx) (a.free c ob q n hx) hc hx
  slot := fun c ob q n hc hx => by
    obtain ⟨sl, e1⟩ := a.slot c ob q n hc hx
    obtain ⟨sl', e2⟩ := b.slot c _ e1 (a.free c ob q n hx) hc hx
    exact ⟨sl', e2⟩
  free := fun c ob q n hx => by
    obtain ⟨o', e1⟩ := a.there c ob q hx
    exact b.free c o' e1 (a.free c ob q n hx) hx
  there := fun c ob q hx => by
    obtain ⟨o', e1⟩ := a.there c ob q hx
    exact b.there c o' e1 hx
  tups := fun c xs q => b.tups c xs (a.tups c xs q)
  frzs := fun c ob xs q => b.frzs c ob xs (a.frzs c ob xs q)
  tbls := fun c ps q => by
    obtain ⟨m1, e1⟩ := a.tbls c ps q
    obtain ⟨m2, e2⟩ := b.tbls c _ e1
    exact ⟨m1 ++ m2, by rw [e2, Array.append_assoc]⟩
theorem Un.kept (k : ∀ b u, h.get? b = some u → h'.get? b = some u) : Un fs ex H H h h' :=
  ⟨fun b ob q _ _ _ => k b ob q, fun b ob q _ _ _ => ⟨ob.slots, k b ob q⟩, fun _ _ _ n _ => n, fun b ob q _ => ⟨ob, k b ob q⟩, fun _ _ q => q, fun _ _ _ q => q, fun _ ps q => ⟨#[], by rw [q]; simp⟩⟩
theorem Un.refl : Un fs ex H H h h := Un.kept fun _ _ q => q
theorem Un.laid (k : ∀ b u, h.get? b = some u → h'.get? b = some u) (hp : h.objs.size ≤ a) (hn : H a = none) : Un fs ex H (upd H a o) h h' where
  keep := fun b u q _ _ _ => k b u q
  slot := fun b u q _ _ _ => ⟨u.slots, k b u q⟩
  free := fun b u q n _ => by rw [upd_ne (Nat.ne_of_lt (Nat.lt_of_lt_of_le (Heap.lt_size q) hp))]; exact n
  there := fun b u q _ => ⟨u, k b u q⟩
  tups := fun b xs q => by rw [upd_ne (ne_of_none q hn)]; exact q
  frzs := fun b u xs q => by rw [upd_ne (ne_of_none q hn)]; exact q
  tbls := fun b ps q => ⟨#[], by rw [upd_ne (ne_of_none q hn), q]; simp⟩
theorem Un.write (mu : Mut (H x)) (he : e = x ∨ H e = some (.own x)) (k : ∀ b u, b ≠ e → h.get? b = some u → h'.get? b = some u) (heo : ∃ u, h'.get? e = some u) : Un fs ex H (upd H x o) h h' := by
  have hx : ∀ b, H b = none → b ≠ x := fun b n z => by subst z; rw [n] at mu; exact mu
  have hb : ∀ b, H b = none → b ≠ e := fun b n z => by
    subst z
    rcases he with r | r
    · exact hx b n r
    · rw [n] at r; cases r
  have hm : ∀ b u, H b = some u → ¬ Mut (some u) → b ≠ x := fun b u q nm z => by subst z; rw [q] at mu; exact nm mu
  refine ⟨fun b u q n _ _ => k b u (hb b n) q, fun b u q n _ _ => ⟨u.slots, k b u (hb b n) q⟩, fun b u q n _ => by rw [upd_ne (hx b n)]; exact n, fun b u q _ => ?_,
    fun b xs q => by rw [upd_ne (hm b _ q fun z => z)]; exact q, fun b u xs q => by rw [upd_ne (hm b _ q fun z => z)]; exact q, fun b ps q => ⟨#[], by rw [upd_ne (hm b _ q fun z => z), q]; simp⟩⟩
  by_cases hbe : b = e
  · subst hbe; exact heo
  · exact ⟨u, k b u hbe q⟩
theorem Un.mono (u : Un fs ex H H1 h h1) (hs : ∀ b ∈ fs, b ∈ fs') (hx : ∀ b ∈ ex, b ∈ ex') : Un fs' ex' H H1 h h1 :=
  ⟨fun b ob q n hb he => u.keep b ob q n (fun z => hb (hs b z)) fun z => he (hx b z), fun _ _ q n _ he => u.any q n fun z => he (hx _ z), fun b ob q n he => u.free b ob q n fun z => he (hx b z), fun b ob q he => u.there b ob q fun z => he (hx b z), u.tups, u.frzs, u.tbls⟩
end

/-! ### the heap without what is tracked -/
def trk (h : Heap) (H : Hp) : List Addr := (List.range h.objs.size).filter fun a => (H a).isSome
def hidT (h : Heap) (H : Hp) : Heap := PySem.W.hideAll h (trk h H)
theorem hidT_size (h : Heap) (H : Hp) : (hidT h H).objs.size = h.objs.size := PySem.W.hideAll_size _ _
theorem hidT_get {h : Heap} {H : Hp} {b : Addr} {o : Obj} (e : h.get? b = some o) (n : H b = none) : (hidT h H).get? b = some o :=
  PySem.W.hideAll_get _ e fun hm => by
    have q : (H b).isSome = true := (List.mem_filter.mp hm).2
    rw [n] at q; simp at q
theorem of_hidT {h : Heap} {H : Hp} {b : Addr} {o : Obj} (e : (hidT h H).get? b = some o) : h.get? b = some o ∧ H b = none := by
  have e' : h.get? b = some o := PySem.W.of_hideAll (trk h H) e
  refine ⟨e', ?_⟩
  cases q : H b with
  | none => rfl
  | some x =>
    have hm : b ∈ trk h H := List.mem_filter.mpr ⟨List.mem_range.mpr (Heap.lt_size e'), by simp [q]⟩
    have z : (hidT h H).get? b = none := PySem.W.hideAll_none (trk h H) hm
    rw [z] at e; cases e

/-! ### OpenK's ledger, filled with every new object but one -/
def allNews (g h : Heap) (L : Addr) : List (Addr × Obj) := (List.range h.objs.size).filterMap fun a => if a = L ∨ (g.get? a).isSome = true then none else (h.get? a).map fun o => (a, o)
def rest (g h : Heap) (L d : Addr) : List (Addr × Obj) := (allNews g h L).filter fun p => decide (p.1 ≠ d)
end L2

namespace L2
open PySem PySem.Spec PyProof.Rows

/-- the module's facts, over the base: the heap at the law's entry without what is tracked there -/
structure Mod (K : PySem.W.Frag) (mg : Str → Option Value) (base : Heap) : Prop where
  kin : K.In base
  glob : base.Ns mainGlobals mg
  blt : ∃ mb, base.Ns builtinsNs mb ∧ ∀ x : Str, x ≠ "__name__" → mb x = bootBuiltins x
  nolimit : base.NoLimit

/-- the context: a def's body (or a comprehension's block) running. base: fixed through the whole law; s₀, H₀: the entry; outer: the frames whose slots others may change (a def's callers); stack: all frames that run;
   ex: iterators that were made ahead of the entry and are walked here (a comprehension's); fn: the names whose cells were made at the entry (a def: all; a comprehension's block: its own); calm: not within an except suite; pn: pins that every state bears; xe: what is wanted of an exception that leaves the code -/
structure Cx where
  prog : Program
  w : World
  K : PySem.W.Frag
  mg : Str → Option Value
  base : Heap
  A : Around
  N : List Str
  s₀ : Shared
  H₀ : Hp
  env : Env
  outer : List Env
  stack : List Env
  ex : List Addr
  fn : Str → Bool
  calm : Bool
  pn : List (Addr × Obj)
  xe : Value → Shared → Prop
/-- the callers' frames -/
def frs (l : List Env) : List Addr := l.filterMap (·.frame)
abbrev Cx.fs (X : Cx) : List Addr := frs X.outer

def Vis (sc : Scope) (x : Str) : Prop := sc.names.lookup x = some .local ∨ sc.names.lookup x = some .cell ∨ sc.names.lookup x = some .free
def Loc (sc : Scope) (x : Str) : Prop := sc.names.lookup x = some .local ∨ sc.names.lookup x = some .cell
def Look (env : Env) (h : Heap) (m : Str → Option Value) (x : Str) (u : Value) : Prop :=
  (env.kindOf x = some .local ∧ m x = some u) ∨ ((env.kindOf x = some .cell ∨ env.kindOf x = some .free) ∧ ∃ c, env.cells.lookup x = some c ∧ h.IsCell c (some u))

structure Cx.Ok (X : Cx) : Prop where
  mod : Mod X.K X.mg X.base
  kind : X.env.scope.kind = .function
  glob : X.env.globals = mainGlobals
  blt : X.env.builtins = builtinsNs
  above : X.s₀.heap.objs.size ≤ X.env.locals
  inj : ∀ x y c, X.env.cells.lookup x = some c → X.env.cells.lookup y = some c → x = y
  has : ∀ x, (X.env.kindOf x = some .cell ∨ X.env.kindOf x = some .free) → ∃ c, X.env.cells.lookup x = some c
  cab : ∀ x c, X.fn x = true → X.env.cells.lookup x = some c → X.s₀.heap.objs.size ≤ c
  hd : X.calm = true → X.A.handled = none
  frames : X.A.frames = some X.stack
  stk : X.stack = X.outer ∨ (X.stack = X.env :: X.outer ∧ X.env.frame = some X.env.locals)
  exf : ∀ b ∈ X.ex, b ≠ X.env.locals ∧ ∀ x c, X.env.cells.lookup x = some c → c ≠ b
  bs : ∀ b o, X.base.get? b = some o → X.s₀.heap.get? b = some o ∧ X.H₀ b = none
  bsz : X.base.objs.size ≤ X.s₀.heap.objs.size
  noex : ∀ b o, X.base.get? b = some o → b ∉ X.ex
  exfs : ∀ b ∈ X.ex, b ∉ X.fs
  funs : X.s₀.heap.FunFrames X.base X.outer
  frf : ∀ b ∈ X.fs, X.H₀ b = none

structure Inv (X : Cx) (pins : List (Addr × Obj)) (σ : List (Option V)) (H : Hp) (s : Shared) : Prop where
  ok : X.Ok
  os : s.os = X.s₀.os
  bare : AllBare s.gens
  base : Un X.fs X.ex X.H₀ H X.s₀.heap s.heap
  loc : ∃ m, s.heap.Ns X.env.locals m ∧ ∀ (i : Nat) (x : Str) (v : V), X.N[i]? = some x → σ[i]? = some (some v) → Vis X.env.scope x → ∃ u, RelV v u ∧ Look X.env s.heap m x u
  cell : ∀ x c, X.env.cells.lookup x = some c → ∃ v, s.heap.IsCell c v
  free : H X.env.locals = none
  freeC : ∀ x c, X.env.cells.lookup x = some c → H c = none
  pin : ∀ p ∈ X.pn ++ pins, s.heap.get? p.1 = some p.2 ∧ H p.1 = none ∧ p.1 ≠ X.env.locals ∧ p.1 ∉ X.fs ∧ ∀ v, p.2.data ≠ .cell v
  hok : HOk X.prog X.w H s.heap
  len : σ.length = X.N.length

section
variable {X : Cx} {pins : List (Addr × Obj)} {σ : List (Option V)} {H H' : Hp} {s : Shared} {h' : Heap}

theorem Cx.Ok.nofr (ok : X.Ok) {b : Addr} {o : Obj} (e : X.base.get? b = some o) : b ∉ X.fs := fun hb => by
  have := (ok.funs.mem hb).1
  rw [e] at this; cases this
theorem Inv.bs (I : Inv X pins σ H s) : ∀ b o, X.base.get? b = some o → s.heap.get? b = some o ∧ H b = none := fun b o e =>
  ⟨I.base.keep b o (I.ok.bs b o e).1 (I.ok.bs b o e).2 (I.ok.nofr e) (I.ok.noex b o e), I.base.free b o (I.ok.bs b o e).1 (I.ok.bs b o e).2 (I.ok.noex b o e)⟩
theorem Inv.bk (I : Inv X pins σ H s) : ∀ b o, X.base.get? b = some o → s.heap.get? b = some o := fun b o e => (I.bs b o e).1
theorem Inv.mod (I : Inv X pins σ H s) : Mod X.K X.mg X.base := I.ok.mod
theorem Inv.kIn (I : Inv X pins σ H s) : X.K.In s.heap := I.ok.mod.kin.keeps I.bk
theorem Inv.nolimit (I : Inv X pins σ H s) : s.heap.NoLimit := I.ok.mod.nolimit.keeps I.bk
/-- the frame over the base: for OpenK's rules (K.In X.base is I.mod.kin) -/
theorem Inv.fr (I : Inv X pins σ H s) : ∃ m, Fr X.base X.env.locals s.heap m :=
  let ⟨m, hn, _⟩ := I.loc
  ⟨m, hn, I.bk, Nat.le_trans I.ok.bsz I.ok.above⟩
theorem Inv.lt (I : Inv X pins σ H s) : X.env.locals < s.heap.objs.size := let ⟨_, hn, _⟩ := I.loc; hn.lt
theorem Inv.sz (I : Inv X pins σ H s) : X.s₀.heap.objs.size ≤ s.heap.objs.size := Nat.le_trans I.ok.above (Nat.le_of_lt I.lt)
theorem Inv.nofs (I : Inv X pins σ H s) {a : Addr} (h : s.heap.objs.size ≤ a) : a ∉ X.fs := fun hb => by
  obtain ⟨_, o, ho, _⟩ := I.ok.funs.mem hb
  exact absurd (Nat.lt_of_lt_of_le (Heap.lt_size ho) (Nat.le_trans I.sz h)) (Nat.lt_irrefl _)
theorem Inv.cne (I : Inv X pins σ H s) : ∀ x c, X.env.cells.lookup x = some c → c ≠ X.env.locals := fun x c e z => by
  obtain ⟨v, o, ho, hd⟩ := I.cell x c e
  obtain ⟨m, ⟨o', es, ep, ho', hd', _⟩, _⟩ := I.loc
  rw [z, ho'] at ho; cases ho; rw [hd'] at hd; cases hd
theorem Inv.funs (I : Inv X pins σ H s) : s.heap.FunFrames X.base X.outer := by
  have all : ∀ (l : List Env), (∀ b ∈ frs l, b ∈ X.fs) → X.s₀.heap.FunFrames X.base l → s.heap.FunFrames X.base l := by
    intro l
    induction l with
    | nil => intro _ _; trivial
    | cons env r ih =>
      intro hs hl
      obtain ⟨hk, ⟨L, o, hf, hn, ho, hd⟩, hr⟩ := hl
      have hL : L ∈ X.fs := hs L (by unfold frs; rw [List.filterMap_cons, hf]; exact List.mem_cons_self)
      obtain ⟨sl, e⟩ := I.base.slot L o ho (I.ok.frf L hL) hL fun z => I.ok.exfs L z hL
      exact ⟨hk, ⟨L, _, hf, hn, e, hd⟩, ih (fun b hb => hs b (by unfold frs; rw [List.filterMap_cons, hf]; exact List.mem_cons_of_mem _ hb)) hr⟩
  exact all X.outer (fun _ hb => hb) I.ok.funs

/-- the frames that run, for a call -/
theorem Inv.stack (I : Inv X pins σ H s) : s.heap.FunFrames X.base X.stack := by
  rcases I.ok.stk with e | ⟨e, hf⟩
  · rw [e]; exact I.funs
  · rw [e]
    obtain ⟨m, hn, _⟩ := I.loc
    refine .cons (by rw [I.ok.kind]; decide) hf hn ?_ I.funs
    exact Heap.get?_none_of_le (Nat.le_trans I.ok.bsz I.ok.above)
theorem Inv.stkSub (I : Inv X pins σ H s) : ∀ b ∈ frs X.stack, b ∈ X.env.locals :: X.fs := fun b hb => by
  rcases I.ok.stk with e | ⟨e, hf⟩
  · rw [e] at hb; exact List.mem_cons_of_mem _ hb
  · rw [e] at hb
    unfold frs at hb
    rw [List.filterMap_cons, hf] at hb
    exact hb
theorem Inv.stkFree (I : Inv X pins σ H s) : ∀ b ∈ frs X.stack, H b = none := fun b hb => by
  rcases List.mem_cons.mp (I.stkSub b hb) with e | hb
  · rw [e]; exact I.free
  · obtain ⟨_, o, ho, _⟩ := I.ok.funs.mem hb
    exact I.base.free b o ho (I.ok.frf b hb) fun z => I.ok.exfs b z hb

/-- THE STEP: the untracked objects but the frame and the records at ch are kept (the callers' frames up to slots), the frame's map is kept, the new abstract heap is held -/
theorem Inv.step {g' : Array GenState} {t' : Nat} {d' : Drawn} {ch : List Addr} (I : Inv X pins σ H s)
    (hch : ∀ b ∈ ch, (b ∈ X.ex ∨ X.s₀.heap.objs.size ≤ b) ∧ b ≠ X.env.locals ∧ (∀ x c, X.env.cells.lookup x = some c → c ≠ b) ∧ ∀ p ∈ X.pn ++ pins, p.1 ≠ b)
    (keep : ∀ b o, b ≠ X.env.locals → b ∉ X.fs → b ∉ ch → s.heap.get? b = some o → H b = none → h'.get? b = some o)
    (slot : ∀ b o, b ≠ X.env.locals → b ∈ X.fs → b ∉ ch → s.heap.get? b = some o → H b = none → ∃ sl, h'.get? b = some { o with slots := sl }) (free : ∀ b o, b ∉ ch → s.heap.get? b = some o → H b = none → H' b = none)
    (there : ∀ b o, b ∉ ch → s.heap.get? b = some o → ∃ o', h'.get? b = some o')
    (tups : ∀ b xs, H b = some (.tup xs) → H' b = some (.tup xs)) (frzs : ∀ b o u, H b = some (.frz o u) → H' b = some (.frz o u)) (tbls : ∀ b ps, H b = some (.tbl ps) → ∃ more, H' b = some (.tbl (ps ++ more)))
    (ns : ∀ m, s.heap.Ns X.env.locals m → h'.Ns X.env.locals m) (hok : HOk X.prog X.w H' h') (hg : AllBare g') :
    Inv X pins σ H' { s with heap := h', gens := g', drawn := d', toks := t' } := by
  have neL : ∀ b o, X.s₀.heap.get? b = some o → b ≠ X.env.locals := fun b o e => Nat.ne_of_lt (Nat.lt_of_lt_of_le (Heap.lt_size e) I.ok.above)
  have neC : ∀ b o, X.s₀.heap.get? b = some o → b ∉ X.ex → b ∉ ch := fun b o e hx hb => by
    rcases (hch b hb).1 with z | z
    · exact hx z
    · exact absurd (Nat.lt_of_lt_of_le (Heap.lt_size e) z) (Nat.lt_irrefl _)
  have cellK : ∀ x c, X.env.cells.lookup x = some c → ∀ v, s.heap.IsCell c v → h'.IsCell c v := fun x c e v ⟨o, ho, hd⟩ => by
    have nch : c ∉ ch := fun z => (hch c z).2.2.1 x c e rfl
    by_cases hc : c ∈ X.fs
    · obtain ⟨sl, q⟩ := slot c o (I.cne x c e) hc nch ho (I.freeC x c e)
      exact ⟨_, q, hd⟩
    · exact ⟨o, keep c o (I.cne x c e) hc nch ho (I.freeC x c e), hd⟩
  refine ⟨I.ok, I.os, hg, ⟨fun b o e n hb hx => ?_, fun b o e n hb hx => ?_, fun b o e n hx => ?_, fun b o e hx => ?_, fun b xs e => tups b xs (I.base.tups b xs e), fun b o xs e => frzs b o xs (I.base.frzs b o xs e), fun b ps e => ?_⟩, ?_, fun x c e => ?_, ?_, fun x c e => ?_, fun p hp => ?_, hok, I.len⟩
  · exact keep b o (neL b o e) hb (neC b o e hx) (I.base.keep b o e n hb hx) (I.base.free b o e n hx)
  · obtain ⟨sl, e1⟩ := I.base.slot b o e n hb hx
    obtain ⟨sl', e2⟩ := slot b _ (neL b o e) hb (neC b o e hx) e1 (I.base.free b o e n hx)
    exact ⟨sl', e2⟩
  · obtain ⟨o', e1⟩ := I.base.there b o e hx
    exact free b o' (neC b o e hx) e1 (I.base.free b o e n hx)
  · obtain ⟨o', e1⟩ := I.base.there b o e hx
    exact there b o' (neC b o e hx) e1
  · obtain ⟨m1, e1⟩ := I.base.tbls b ps e
    obtain ⟨m2, e2⟩ := tbls b _ e1
    exact ⟨m1 ++ m2, by rw [e2, Array.append_assoc]⟩
  · obtain ⟨m, hn, hl⟩ := I.loc
    refine ⟨m, ns m hn, fun i x v e1 e2 e3 => ?_⟩
    obtain ⟨u, r, l⟩ := hl i x v e1 e2 e3
    refine ⟨u, r, ?_⟩
    rcases l with l | ⟨k, c, e, z⟩
    · exact .inl l
    · exact .inr ⟨k, c, e, cellK x c e _ z⟩
  · obtain ⟨v, z⟩ := I.cell x c e
    exact ⟨v, cellK x c e v z⟩
  · obtain ⟨m, ⟨o, _, _, ho, _⟩, _⟩ := I.loc
    exact free _ o (fun z => (hch _ z).2.1 rfl) ho I.free
  · obtain ⟨v, o, ho, hd⟩ := I.cell x c e
    exact free c o (fun z => (hch c z).2.2.1 x c e rfl) ho (I.freeC x c e)
  · obtain ⟨e, n, ne, nf, d⟩ := I.pin p hp
    have nch : p.1 ∉ ch := fun z => (hch p.1 z).2.2.2 p hp rfl
    exact ⟨keep p.1 p.2 ne nf nch e n, free p.1 p.2 nch e n, ne, nf, d⟩
/-- .. where the frame's own object is kept too -/
theorem Inv.un {t' : Nat} (I : Inv X pins σ H s) (u : Un X.fs [] H H' s.heap h') (hok : HOk X.prog X.w H' h') : Inv X pins σ H' { s with heap := h', toks := t' } := by
  obtain ⟨m, ⟨o, es, ep, ho, r⟩, _⟩ := id I.loc
  obtain ⟨sl, hL⟩ := u.any ho I.free (by simp)
  exact I.step (g' := s.gens) (d' := s.drawn) (ch := []) (fun _ z => nomatch z) (fun b o _ hb _ e n => u.keep b o e n hb (by simp)) (fun b o _ hb _ e n => u.slot b o e n hb (by simp)) (fun b o _ e n => u.free b o e n (by simp)) (fun b o _ e => u.there b o e (by simp)) u.tups u.frzs u.tbls (fun m' hm => by
    obtain ⟨o', es', ep', ho', r'⟩ := hm
    rw [ho] at ho'; cases ho'
    exact ⟨_, es', ep', hL, r'⟩) hok I.bare
/-- behind a call (or a comprehension's block): the slots of this frame may have changed too, the records at ch may have turned -/
theorem Inv.call {g' : Array GenState} {t' : Nat} {d' : Drawn} {ch : List Addr} (I : Inv X pins σ H s) (u : Un (frs X.stack) ch H H' s.heap h') (hok : HOk X.prog X.w H' h') (hg : AllBare g')
    (hch : ∀ b ∈ ch, (b ∈ X.ex ∨ X.s₀.heap.objs.size ≤ b) ∧ b ≠ X.env.locals ∧ (∀ x c, X.env.cells.lookup x = some c → c ≠ b) ∧ ∀ p ∈ X.pn ++ pins, p.1 ≠ b) :
    Inv X pins σ H' { s with heap := h', gens := g', drawn := d', toks := t' } := by
  obtain ⟨m, ⟨o, es, ep, ho, r⟩, _⟩ := id I.loc
  obtain ⟨sl, hL⟩ := u.any ho I.free fun z => (hch _ z).2.1 rfl
  exact I.step (ch := ch) hch (fun b o hL hb hc e n => u.keep b o e n (fun z => (List.mem_cons.mp (I.stkSub b z)).elim hL hb) hc) (fun b o _ _ hc e n => u.any e n hc) (fun b o hc e n => u.free b o e n hc) (fun b o hc e => u.there b o e hc) u.tups u.frzs u.tbls (fun m' hm => by
    obtain ⟨o', es', ep', ho', r'⟩ := hm
    rw [ho] at ho'; cases ho'
    exact ⟨_, es', ep', hL, r'⟩) hok hg
/-- an untracked record of ours (an iterator) has turned -/
theorem Inv.turned {t' : Nat} {it : Addr} (I : Inv X pins σ H s) (k : ∀ b o, b ≠ it → s.heap.get? b = some o → h'.get? b = some o) (hn : H it = none) (hL : it ≠ X.env.locals)
    (h1 : it ∈ X.ex ∨ X.s₀.heap.objs.size ≤ it) (h2 : ∀ x c, X.env.cells.lookup x = some c → c ≠ it) (h3 : ∀ p ∈ X.pn ++ pins, p.1 ≠ it) : Inv X pins σ H { s with heap := h', toks := t' } := by
  have nit : ∀ b u, H b = some u → b ≠ it := fun b u e z => by rw [z, hn] at e; cases e
  refine I.step (g' := s.gens) (d' := s.drawn) (ch := [it]) (fun b hb => ?_) (fun b o _ _ hc e _ => k b o (fun z => hc (by simp [z])) e) (fun b o _ _ hc e _ => ⟨o.slots, k b o (fun z => hc (by simp [z])) e⟩) (fun _ _ _ _ n => n)
    (fun b o hc e => ⟨o, k b o (fun z => hc (by simp [z])) e⟩) (fun _ _ e => e) (fun _ _ _ e => e) (fun b ps e => ⟨#[], by rw [e]; simp⟩) (fun m hm => ?_) (fun b u e => ?_) I.bare
  · have e : b = it := by simpa using hb
    subst e
    exact ⟨h1, hL, h2, h3⟩
  · obtain ⟨o, es, ep, ho, r⟩ := hm
    exact ⟨o, es, ep, k _ o (Ne.symm hL) ho, r⟩
  · refine (I.hok b u e).stay (fun c v hc q => k c v ?_ q) (fun _ q => q) fun _ _ q => q
    rcases hc with z | z
    · rw [z]; exact nit b u e
    · exact nit c _ z
theorem Inv.tok (I : Inv X pins σ H s) (t : Nat) : Inv X pins σ H { s with toks := t } := I.un (h' := s.heap) (t' := t) Un.refl I.hok
/-- all objects kept -/
theorem Inv.kept {t' : Nat} (I : Inv X pins σ H s) (k : ∀ b u, s.heap.get? b = some u → h'.get? b = some u) : Inv X pins σ H { s with heap := h', toks := t' } := I.un (Un.kept k) (I.hok.kept k)
/-- a new object laid and tracked -/
theorem Inv.laid {a : Addr} {o : HO} {t' : Nat} (I : Inv X pins σ H s) (k : ∀ b u, s.heap.get? b = some u → h'.get? b = some u) (hp : s.heap.objs.size ≤ a) (new : ObjOk X.prog X.w (upd H a o) h' a o) :
    Inv X pins σ (upd H a o) { s with heap := h', toks := t' } := I.un (Un.laid k hp (I.hok.fresh hp)) (I.hok.laid k hp new)
/-- an object written -/
theorem Inv.write {x e : Addr} {o : HO} {t' : Nat} (I : Inv X pins σ H s) (mu : Mut (H x)) (he : e = x ∨ H e = some (.own x)) (k : ∀ b u, b ≠ e → s.heap.get? b = some u → h'.get? b = some u) (heo : ∃ u, h'.get? e = some u)
    (new : ObjOk X.prog X.w (upd H x o) h' x o) : Inv X pins σ (upd H x o) { s with heap := h', toks := t' } := I.un (Un.write mu he k heo) (I.hok.write mu he k heo new)
/-- forgetting slots, pins -/
theorem Inv.weak {σ' : List (Option V)} (I : Inv X pins σ H s) (hl : σ'.length = σ.length) (w : ∀ (i : Nat) v, σ'[i]? = some (some v) → σ[i]? = some (some v)) : Inv X pins σ' H s :=
  ⟨I.ok, I.os, I.bare, I.base, let ⟨m, hn, hl'⟩ := I.loc; ⟨m, hn, fun i x v e1 e2 e3 => hl' i x v e1 (w i v e2) e3⟩, I.cell, I.free, I.freeC, I.pin, I.hok, hl.trans I.len⟩
theorem Inv.pins_of {pins' : List (Addr × Obj)} (I : Inv X pins σ H s) (h : ∀ p ∈ pins', s.heap.get? p.1 = some p.2 ∧ H p.1 = none ∧ p.1 ≠ X.env.locals ∧ p.1 ∉ X.fs ∧ ∀ v, p.2.data ≠ .cell v) : Inv X pins' σ H s :=
  ⟨I.ok, I.os, I.bare, I.base, I.loc, I.cell, I.free, I.freeC, fun p hp => (List.mem_append.mp hp).elim (fun z => I.pin p (List.mem_append_left _ z)) (h p), I.hok, I.len⟩

theorem nodup_ix {N : List Str} (hN : N.Nodup) {i j : Nat} {x : Str} (a : N[i]? = some x) (b : N[j]? = some x) : i = j := by
  obtain ⟨h1, e1⟩ := List.getElem?_eq_some_iff.mp a
  obtain ⟨h2, e2⟩ := List.getElem?_eq_some_iff.mp b
  exact (List.getElem_inj hN).mp (e1.trans e2.symm)

/-- a name is stored; what changed -/
theorem store_ok2 {M : Model} {A : Around} {E : Value → Shared → Prop} {i : Nat} {x : Str} {v : V} {u : Value} {Q : Unit → Shared → Prop} (I : Inv X pins σ H s) (hN : X.N.Nodup) (hi : X.N[i]? = some x) (hx : Loc X.env.scope x) (r : RelV v u)
    (h : ∀ s', Inv X pins (σ.set i (some v)) H s' → (∃ a, Heap.SameBut a s.heap s'.heap ∧ (a = X.env.locals ∨ X.env.cells.lookup x = some a)) → Q () s') (hf : X.fn x = true ∨ X.env.scope.names.lookup x = some .local := by first | exact .inl rfl | exact .inr rfl | assumption) : wpAny M A (storeName X.env x u) Q E s := by
  obtain ⟨m, hn, hl⟩ := id I.loc
  have hcls : (X.env.scope.kind == .class || (X.env.scope.kind == .module && X.env.locals != X.env.globals)) = false := by rw [I.ok.kind]; rfl
  have hiσ : i < σ.length := by rw [I.len]; exact (List.getElem?_eq_some_iff.mp hi).1
  have cne := I.cne
  have tracked : ∀ {a : Addr} {h' : Heap}, (∃ o, s.heap.get? a = some o ∧ H a = none) → Heap.SameBut a s.heap h' → HOk X.prog X.w H h' := fun {a h'} ha hs b ob e => by
    obtain ⟨_, _, hfree⟩ := ha
    refine (I.hok b ob e).stay (fun c w' hc q => (hs.2 c ?_).trans q) (fun _ q => q) fun _ _ q => q
    rintro rfl
    rcases hc with rfl | hc
    · rw [hfree] at e; cases e
    · rw [hfree] at hc; cases hc
  rcases hx with hk | hk
  · refine wpAny_storeName_local hk hn (fun h' hn' hs => ?_) hcls
    obtain ⟨oL, _, _, hoL, _⟩ := id hn
    refine h _ ⟨I.ok, I.os, I.bare, ⟨fun b o e n hb hx => ?_, fun b o e n hb hx => ?_, I.base.free, fun b o e hx => ?_, I.base.tups, I.base.frzs, I.base.tbls⟩, ⟨_, hn', fun j y v' e1 e2 e3 => ?_⟩, fun y c e => ?_, I.free, I.freeC, fun p hp => ?_, tracked ⟨oL, hoL, I.free⟩ hs, by simpa using I.len⟩ ⟨_, hs, .inl rfl⟩
    · exact (hs.2 b (Nat.ne_of_lt (Nat.lt_of_lt_of_le (Heap.lt_size e) I.ok.above))).trans (I.base.keep b o e n hb hx)
    · obtain ⟨sl, e1⟩ := I.base.slot b o e n hb hx
      exact ⟨sl, (hs.2 b (Nat.ne_of_lt (Nat.lt_of_lt_of_le (Heap.lt_size e) I.ok.above))).trans e1⟩
    · obtain ⟨o', e1⟩ := I.base.there b o e hx
      exact ⟨o', (hs.2 b (Nat.ne_of_lt (Nat.lt_of_lt_of_le (Heap.lt_size e) I.ok.above))).trans e1⟩
    · by_cases hj : j = i
      · subst hj
        rw [hi] at e1; cases e1
        rw [List.getElem?_set_self hiσ] at e2
        cases e2
        exact ⟨u, r, .inl ⟨hk, by simp⟩⟩
      · rw [List.getElem?_set_ne (Ne.symm hj)] at e2
        obtain ⟨u', r', q⟩ := hl j y v' e1 e2 e3
        refine ⟨u', r', ?_⟩
        rcases q with ⟨k, e⟩ | ⟨k, c, e, z⟩
        · refine .inl ⟨k, ?_⟩
          have : y ≠ x := fun e => hj (nodup_ix hN e1 (e ▸ hi))
          simp [this, e]
        · exact .inr ⟨k, c, e, z.sameBut hs (cne y c e)⟩
    · obtain ⟨w', z⟩ := I.cell y c e
      exact ⟨w', z.sameBut hs (cne y c e)⟩
    · obtain ⟨e, n, ne, nf, d⟩ := I.pin p hp
      exact ⟨(hs.2 p.1 ne).trans e, n, ne, nf, d⟩
  · have hfn : X.fn x = true := by
      rcases hf with z | z
      · exact z
      · rw [z] at hk; cases hk
    obtain ⟨c, hc⟩ := I.ok.has x (.inl hk)
    obtain ⟨w', z⟩ := I.cell x c hc
    refine wpAny_storeName_cell I.ok.kind hk hc z (fun h' hc' hs => ?_)
    obtain ⟨oc, hoc, hocd⟩ := id z
    refine h { s with heap := h' } ⟨I.ok, I.os, I.bare, ⟨fun b o e n hb hx => ?_, fun b o e n hb hx => ?_, I.base.free, fun b o e hx => ?_, I.base.tups, I.base.frzs, I.base.tbls⟩, ⟨m, hn.sameBut hs (Ne.symm (cne x c hc)), fun j y v' e1 e2 e3 => ?_⟩, fun y c' e => ?_, I.free, I.freeC, fun p hp => ?_, tracked ⟨oc, hoc, I.freeC x c hc⟩ hs, by simpa using I.len⟩ ⟨c, hs, .inr hc⟩
    · exact (hs.2 b (Nat.ne_of_lt (Nat.lt_of_lt_of_le (Heap.lt_size e) (I.ok.cab x c hfn hc)))).trans (I.base.keep b o e n hb hx)
    · obtain ⟨sl, e1⟩ := I.base.slot b o e n hb hx
      exact ⟨sl, (hs.2 b (Nat.ne_of_lt (Nat.lt_of_lt_of_le (Heap.lt_size e) (I.ok.cab x c hfn hc)))).trans e1⟩
    · obtain ⟨o', e1⟩ := I.base.there b o e hx
      exact ⟨o', (hs.2 b (Nat.ne_of_lt (Nat.lt_of_lt_of_le (Heap.lt_size e) (I.ok.cab x c hfn hc)))).trans e1⟩
    · by_cases hj : j = i
      · subst hj
        rw [hi] at e1; cases e1
        rw [List.getElem?_set_self hiσ] at e2
        cases e2
        exact ⟨u, r, .inr ⟨.inl hk, c, hc, hc'⟩⟩
      · rw [List.getElem?_set_ne (Ne.symm hj)] at e2
        obtain ⟨u', r', q⟩ := hl j y v' e1 e2 e3
        refine ⟨u', r', ?_⟩
        rcases q with q | ⟨k, c', e, z'⟩
        · exact .inl q
        · refine .inr ⟨k, c', e, z'.sameBut hs ?_⟩
          rintro rfl
          exact hj (nodup_ix hN e1 (I.ok.inj _ _ _ e hc ▸ hi))
    · by_cases hcc : c' = c
      · subst hcc; exact ⟨_, hc'⟩
      · obtain ⟨w2, z2⟩ := I.cell y c' e
        exact ⟨w2, z2.sameBut hs hcc⟩
    · obtain ⟨e, n, ne, nf, d⟩ := I.pin p hp
      refine ⟨(hs.2 p.1 ?_).trans e, n, ne, nf, d⟩
      intro q
      rw [q, hoc] at e
      have q' : oc = p.2 := Option.some.inj e
      exact d w' (by rw [← q']; exact hocd)
theorem store_ok {M : Model} {A : Around} {E : Value → Shared → Prop} {i : Nat} {x : Str} {v : V} {u : Value} {Q : Unit → Shared → Prop} (I : Inv X pins σ H s) (hN : X.N.Nodup) (hi : X.N[i]? = some x) (hx : Loc X.env.scope x) (r : RelV v u)
    (h : ∀ s', Inv X pins (σ.set i (some v)) H s' → Q () s') (hf : X.fn x = true ∨ X.env.scope.names.lookup x = some .local := by first | exact .inl rfl | exact .inr rfl | assumption) : wpAny M A (storeName X.env x u) Q E s :=
  store_ok2 I hN hi hx r (fun s' I' _ => h s' I') hf
/-- behind a call or a block, the state as it is -/
theorem Inv.call' {s' : Shared} {ch : List Addr} (I : Inv X pins σ H s) (ho : s'.os = s.os) (u : Un (frs X.stack) ch H H' s.heap s'.heap) (hok : HOk X.prog X.w H' s'.heap) (hg : AllBare s'.gens)
    (hch : ∀ b ∈ ch, (b ∈ X.ex ∨ X.s₀.heap.objs.size ≤ b) ∧ b ≠ X.env.locals ∧ (∀ x c, X.env.cells.lookup x = some c → c ≠ b) ∧ ∀ p ∈ X.pn ++ pins, p.1 ≠ b) : Inv X pins σ H' s' := by
  obtain ⟨h', g', d', t', o'⟩ := s'
  have e : o' = s.os := ho
  subst e
  exact I.call (g' := g') (t' := t') (d' := d') u hok hg hch
end

/-- an exception: its class, its own dict's address (where it has one), the abstract heap behind it -/
abbrev XK := Value → Option Addr → Hp → Prop
abbrev St := List (Option V)
abbrev VK := V → Hp → Prop
/-- an expression's reading; a test's; an argument list's -/
abbrev TE := St → Hp → VK → Prop
abbrev TT := St → Hp → (Bool → Hp → Prop) → Prop
abbrev TA := St → Hp → (List V → Hp → Prop) → Prop
/-- what is wanted behind a statement -/
structure Ends where
  nx : St → Hp → Prop
  rt : VK
  bk : St → Hp → Prop := fun _ _ => False
  ct : St → Hp → Prop := fun _ _ => False
abbrev TS := Ends → St → Hp → Prop

def EP (X : Cx) (pins : List (Addr × Obj)) (σ : St) (Q : VK) (u : Value) (s' : Shared) : Prop := ∃ v H', Inv X pins σ H' s' ∧ RelV v u ∧ Q v H'
def TP (X : Cx) (pins : List (Addr × Obj)) (σ : St) (Q : Bool → Hp → Prop) (b : Bool) (s' : Shared) : Prop := ∃ H', Inv X pins σ H' s' ∧ Q b H'
def AP (X : Cx) (pins : List (Addr × Obj)) (σ : St) (Q : List V → Hp → Prop) (us : List Value) (s' : Shared) : Prop := ∃ vs H', Inv X pins σ H' s' ∧ Vals vs us ∧ Q vs H'
def SP (X : Cx) (pins : List (Addr × Obj)) (D : Ends) (f : Flow) (s' : Shared) : Prop :=
  match f with
  | .next => ∃ σ' H', Inv X pins σ' H' s' ∧ D.nx σ' H'
  | .brk => ∃ σ' H', Inv X pins σ' H' s' ∧ D.bk σ' H'
  | .cont => ∃ σ' H', Inv X pins σ' H' s' ∧ D.ct σ' H'
  | .ret u => ∃ v σ' H', Inv X pins σ' H' s' ∧ RelV v u ∧ D.rt v H'

def PE (X : Cx) (e : Expr) (t : TE) : Prop :=
  ∀ (pins : List (Addr × Obj)) (s : Shared) (σ : St) (H : Hp) (Q : VK), Inv X pins σ H s → t σ H Q → wpAny (model X.prog X.w) X.A (eval e X.env) (EP X pins σ Q) X.xe s
def PT (X : Cx) (e : Expr) (t : TT) : Prop :=
  ∀ (pins : List (Addr × Obj)) (s : Shared) (σ : St) (H : Hp) (Q : Bool → Hp → Prop), Inv X pins σ H s → t σ H Q → wpAny (model X.prog X.w) X.A (isTrue e X.env (eval e X.env)) (TP X pins σ Q) X.xe s
/-- a test whatever its 'whole' is (and, or) -/
def PW (X : Cx) (e : Expr) (t : TT) : Prop :=
  ∀ (whole : Sem Value) (pins : List (Addr × Obj)) (s : Shared) (σ : St) (H : Hp) (Q : Bool → Hp → Prop), Inv X pins σ H s → t σ H Q → wpAny (model X.prog X.w) X.A (isTrue e X.env whole) (TP X pins σ Q) X.xe s
theorem PW.pt {X : Cx} {e : Expr} {t : TT} (h : PW X e t) : PT X e t := h _
/-- an argument list (no star), from the left -/
def PA (X : Cx) (es : List Expr) (t : TA) : Prop :=
  ∀ (pos : Pos) (pins : List (Addr × Obj)) (s : Shared) (σ : St) (H : Hp) (Q : List V → Hp → Prop), Inv X pins σ H s → t σ H Q → wpAny (model X.prog X.w) X.A (spliced (backTo pos (starEach es X.env))) (AP X pins σ Q) X.xe s
def PS (X : Cx) (st : Stmt) (t : TS) : Prop :=
  ∀ (pins : List (Addr × Obj)) (s : Shared) (σ : St) (H : Hp) (D : Ends), Inv X pins σ H s → t D σ H → wpAny (model X.prog X.w) X.A (exec st X.env) (SP X pins D) X.xe s
def PSs (X : Cx) (st : List Stmt) (t : TS) : Prop :=
  ∀ (pins : List (Addr × Obj)) (s : Shared) (σ : St) (H : Hp) (D : Ends), Inv X pins σ H s → t D σ H → wpAny (model X.prog X.w) X.A (execs st X.env) (SP X pins D) X.xe s
/-- weaken the end -/
theorem thn {α : Type} {t : Sem α} {Q Q' : α → Shared → Prop} {M : Model} {A : Around} {E : Value → Shared → Prop} {s : Shared} (h : wpAny M A t Q E s) (hQ : ∀ a s, Q a s → Q' a s) : wpAny M A t Q' E s := wpAny_mono h hQ fun _ _ x => x
end L2

namespace L2
open PySem PySem.Spec PyProof.Rows
section
variable {X : Cx}

/-! ### names and constants -/
def tVar (i : Nat) : TE := fun σ H Q => ∃ v, σ[i]? = some (some v) ∧ Q v H
def tC (v : V) : TE := fun _ H Q => Q v H
theorem pe_var {i : Nat} {x : Str} {pos : Pos} (hN : X.N[i]? = some x) (hv : Vis X.env.scope x) (hd : (x == ("__debug__" : Str)) = false := by decide) (hcd : (x == ("__classdict__" : Str)) = false := by decide) : PE X (.Name x pos) (tVar i) := by
  intro pins s σ H Q I h
  obtain ⟨v, e, h⟩ := h
  obtain ⟨m, hn, hl⟩ := I.loc
  obtain ⟨u, r, l⟩ := hl i x v hN e hv
  have fin : EP X pins σ Q u s := ⟨v, H, I, r, h⟩
  rcases l with ⟨hk, hm⟩ | ⟨hk, c, hc, hcell⟩
  · exact wpAny_Name (wpAny_loadName_local I.ok.kind hk hn hm fin) hd
  · rcases hk with hk | hk
    · exact wpAny_Name (wpAny_loadName_cell I.ok.kind hk hc hcell fin) hd
    · exact wpAny_Name (wpAny_loadName_free I.ok.kind hk hc hcell fin hcd) hd
theorem pe_int {i j pos} : PE X (.Constant (.int i) j pos) (tC (.int i)) := fun _ _ _ H _ I h => wpAny_Constant_int ⟨.int i, H, I.tok _, ⟨_, rfl⟩, h⟩
theorem pe_bl {b j pos} : PE X (.Constant (.bool b) j pos) (tC (.bl b)) := fun _ _ _ H _ I h => Constant_bool ⟨.bl b, H, I, rfl, h⟩
theorem pe_non {j pos} : PE X (.Constant .none j pos) (tC .non) := fun _ _ _ H _ I h => Constant_none ⟨.non, H, I, rfl, h⟩
theorem pe_str {x j pos} : PE X (.Constant (.str x) j pos) (tC (.str x)) := fun _ _ _ H _ I h => Calls.Constant_str ⟨.str x, H, I.tok _, ⟨_, rfl⟩, h⟩

/-- a global name of the def -/
def Gl (X : Cx) (x : Str) : Prop := X.env.kindOf x = some .globalImplicit
theorem ld_glob {E : Value → Shared → Prop} {pins : List (Addr × Obj)} {s : Shared} {σ : St} {H : Hp} {x : Str} {u : Value} {pos : Pos} {Q : Value → Shared → Prop} (I : Inv X pins σ H s) (hg : Gl X x) (hm : X.mg x = some u) (h : Q u s)
    (hd : (x == ("__debug__" : Str)) = false := by decide) : wpAny (model X.prog X.w) X.A (eval (.Name x pos) X.env) Q E s :=
  Calls.Name_function_global I.ok.kind hg (Calls.loadGlobal_global (by rw [I.ok.glob]; exact I.mod.glob.keeps I.bk) hm h) hd
theorem ld_blt {E : Value → Shared → Prop} {pins : List (Addr × Obj)} {s : Shared} {σ : St} {H : Hp} {x : Str} {u : Value} {pos : Pos} {Q : Value → Shared → Prop} (I : Inv X pins σ H s) (hg : Gl X x) (hm : X.mg x = none) (hv : bootBuiltins x = some u) (h : Q u s)
    (hn : x ≠ "__name__" := by decide) (hd : (x == ("__debug__" : Str)) = false := by decide) : wpAny (model X.prog X.w) X.A (eval (.Name x pos) X.env) Q E s := by
  obtain ⟨mb, h1, h2⟩ := I.mod.blt
  exact Calls.Name_function_global I.ok.kind hg (Calls.loadGlobal_builtin (by rw [I.ok.glob]; exact I.mod.glob.keeps I.bk) hm (by rw [I.ok.blt]; exact h1.keeps I.bk) ((h2 x hn).trans hv) h) hd
/-- a module's constant, a class, a function, as a value -/
theorem pe_glob {x : Str} {v : V} {u : Value} {pos : Pos} (hg : Gl X x) (hm : X.mg x = some u) (r : RelV v u) (hd : (x == ("__debug__" : Str)) = false := by decide) : PE X (.Name x pos) (tC v) :=
  fun _ _ _ H _ I h => ld_glob I hg hm ⟨v, H, I, r, h⟩ hd
theorem pe_bltn {x : Str} {v : V} {u : Value} {pos : Pos} (hg : Gl X x) (hm : X.mg x = none) (hv : bootBuiltins x = some u) (r : RelV v u) (hn : x ≠ "__name__" := by decide) (hd : (x == ("__debug__" : Str)) = false := by decide) : PE X (.Name x pos) (tC v) :=
  fun _ _ _ H _ I h => ld_blt I hg hm hv ⟨v, H, I, r, h⟩ hn hd

variable {a b : Expr} {ta tb : TE} {pos : Pos}
/-- a comparison as a value, as a test -/
def tB (t : TE) : TT := fun σ H Q => t σ H fun x H1 => ∃ c, x = .bl c ∧ Q c H1
/-- an expression whose value is a bool, as a test -/
theorem pt_val {e : Expr} {t : TE} (h : PE X e t) (he : ∀ whole, isTrue e X.env whole = (do let v ← whole; standAt e.pos; holding [v] (truthy v)) := by intro _; rfl) : PT X e (tB t) := by
  intro pins s σ H Q I hw
  refine isTrue_plain (thn (h pins s σ H _ I hw) fun v s1 ⟨x, H1, I1, r1, q1⟩ => ?_) (he _)
  obtain ⟨d, rfl, q⟩ := q1
  cases r1
  exact wpAny_truthy_bool ⟨H1, I1, q⟩

variable {tA tB' : TT} {rest : List Expr}
def tAnd (t u : TT) : TT := fun σ H Q => t σ H fun c H1 => if c = true then u σ H1 Q else Q false H1
def tOr (t u : TT) : TT := fun σ H Q => t σ H fun c H1 => if c = true then Q true H1 else u σ H1 Q
def tNot (t : TT) : TT := fun σ H Q => t σ H fun c H1 => Q (!c) H1
theorem pw_and1 (ha : PT X a tA) : PW X (.BoolOp .And [a] pos) tA := by
  intro wh pins s σ H Q I h
  refine isTrue_and (thn (ha pins s σ H Q I h) fun c s1 e => ?_)
  cases c with
  | true => exact isTrue_and_nil e
  | false => exact e
theorem pw_or1 (ha : PT X a tA) : PW X (.BoolOp .Or [a] pos) tA := by
  intro wh pins s σ H Q I h
  refine isTrue_or (thn (ha pins s σ H Q I h) fun c s1 e => ?_)
  cases c with
  | false => exact isTrue_or_nil e
  | true => exact e
theorem pw_and (ha : PT X a tA) (hb : PW X (.BoolOp .And (b :: rest) pos) tB') : PW X (.BoolOp .And (a :: b :: rest) pos) (tAnd tA tB') := by
  intro wh pins s σ H Q I h
  refine isTrue_and (thn (ha pins s σ H _ I h) fun c s1 ⟨H1, I1, q1⟩ => ?_)
  cases c with
  | true => exact hb wh pins s1 σ H1 Q I1 q1
  | false => exact ⟨H1, I1, q1⟩
theorem pw_or (ha : PT X a tA) (hb : PW X (.BoolOp .Or (b :: rest) pos) tB') : PW X (.BoolOp .Or (a :: b :: rest) pos) (tOr tA tB') := by
  intro wh pins s σ H Q I h
  refine isTrue_or (thn (ha pins s σ H _ I h) fun c s1 ⟨H1, I1, q1⟩ => ?_)
  cases c with
  | true => exact ⟨H1, I1, q1⟩
  | false => exact hb wh pins s1 σ H1 Q I1 q1
theorem pt_not (ha : PT X a tA) : PT X (.UnaryOp .Not a pos) (tNot tA) := by
  intro pins s σ H Q I h
  exact isTrue_not (ha pins s σ H (fun c H1 => Q (!c) H1) I h)
/-- .. as values (bools) -/
def tAndV (ta tb : TE) : TE := fun σ H Q => ta σ H fun x H1 => ∃ c, x = .bl c ∧ if c = true then tb σ H1 Q else Q (.bl false) H1
def tOrV (ta tb : TE) : TE := fun σ H Q => ta σ H fun x H1 => ∃ c, x = .bl c ∧ if c = true then Q (.bl true) H1 else tb σ H1 Q
def tNotV (ta : TE) : TE := fun σ H Q => ta σ H fun x H1 => ∃ c, x = .bl c ∧ Q (.bl (!c)) H1
theorem pe_one {op} {t : TE} (h : PE X a t) : PE X (.BoolOp op [a] pos) t := fun pins s σ H Q I hw => BoolOp_one (h pins s σ H Q I hw)
theorem pe_and (ha : PE X a ta) (hb : PE X (.BoolOp .And (b :: rest) pos) tb) : PE X (.BoolOp .And (a :: b :: rest) pos) (tAndV ta tb) := by
  intro pins s σ H Q I h
  refine BoolOp_and (thn (ha pins s σ H _ I h) fun v s1 ⟨x, H1, I1, r1, q1⟩ => ?_)
  obtain ⟨c, rfl, q1⟩ := q1
  cases r1
  refine wpAny_truthy_bool ?_
  cases c with
  | true => exact hb pins s1 σ H1 Q I1 q1
  | false => exact ⟨.bl false, H1, I1, rfl, q1⟩
/-- a if t else b -/
def tIf (t : TT) (ta tb : TE) : TE := fun σ H Q => t σ H fun c H1 => if c = true then ta σ H1 Q else tb σ H1 Q
theorem pe_ifExp {c : Expr} (hc : PT X c tA) (ha : PE X a ta) (hb : PE X b tb) : PE X (.IfExp c a b pos) (tIf tA ta tb) := by
  intro pins s σ H Q I h
  refine wpAny_IfExp (thn (hc pins s σ H _ I h) fun d s1 ⟨H1, I1, q1⟩ => ?_)
  cases d with
  | true => exact ha pins s1 σ H1 Q I1 q1
  | false => exact hb pins s1 σ H1 Q I1 q1
end
end L2

namespace L2
open PySem PySem.Spec PyProof.Rows

/-! ### a list, a tuple that is read: tracked, frozen, or an object of the module -/
def SqL (K : PySem.W.Frag) (H : Hp) (a : Addr) (xs : List V) : Prop :=
  Rd H a (.lst xs) ∨
    ∃ (o : Obj) (its : Array Value) (n : Nat), K.lookup a = some o ∧ o.cls = .type "list" ∧ o.dict = none ∧ o.data = .seq its n ∧ its.size ≤ sizeLine ∧ Vals xs its.toList
def SqT (K : PySem.W.Frag) (H : Hp) (a : Addr) (xs : List V) : Prop :=
  Rd H a (.tup xs) ∨
    ∃ (o : Obj) (its : Array Value) (n : Nat), K.lookup a = some o ∧ o.cls = .type "tuple" ∧ o.data = .seq its n ∧ its.size ≤ sizeLine ∧ Vals xs its.toList
def absV : Value → Option V
  | .none => some .non
  | .bool b => some (.bl b)
  | .int i _ => some (.int i)
  | .str x _ => some (.str x)
  | .bytes b _ => some (.byt b)
  | .float b _ => some (.flt b)
  | .ref a => some (.ref a)
  | .type n => some (.ty n)
  | _ => none
theorem RelV.abs {x : V} {u : Value} (r : RelV x u) : absV u = some x := by
  cases x with
  | non => cases r; rfl
  | bl _ => cases r; rfl
  | int _ => obtain ⟨t, rfl⟩ := r; rfl
  | str _ => obtain ⟨t, rfl⟩ := r; rfl
  | byt _ => obtain ⟨t, rfl⟩ := r; rfl
  | flt _ => obtain ⟨t, rfl⟩ := r; rfl
  | ref _ => cases r; rfl
  | ty _ => cases r; rfl
theorem RelV.inj {x y : V} {u : Value} (r : RelV x u) (q : RelV y u) : x = y := Option.some.inj (r.abs.symm.trans q.abs)
theorem Vals.inj : ∀ {xs ys : List V} {us : List Value}, Vals xs us → Vals ys us → xs = ys
  | _, _, _, .nil, .nil => rfl
  | _, _, _, .cons r t, .cons r' t' => by rw [r.inj r', Vals.inj t t']
section
variable {X : Cx} {pins : List (Addr × Obj)} {σ : St} {H : Hp} {s : Shared} {a : Addr} {xs ys : List V}
theorem SqL.of {K : PySem.W.Frag} (h : H a = some (.lst xs)) : SqL K H a xs := .inl (.inl h)
theorem SqT.of {K : PySem.W.Frag} (h : H a = some (.tup xs)) : SqT K H a xs := .inl (.inl h)
theorem Inv.list (I : Inv X pins σ H s) (h : SqL X.K H a xs) : ∃ its : List Value, Vals xs its ∧ PlainL s.heap a its.toArray ∧ xs.length ≤ sizeLine := by
  rcases h with h | ⟨o, its, n, hk, hc, hd, hs, hz, r⟩
  · obtain ⟨z, its, n, r, e⟩ := h.ok I.hok
    exact ⟨its, r, ⟨_, n, e, rfl, rfl, rfl⟩, z⟩
  · refine ⟨its.toList, r, ⟨o, n, I.kIn a o hk, hc, hd, by simpa using hs⟩, ?_⟩
    have e := r.length
    simp only [Array.length_toList] at e
    omega
theorem Inv.tuple (I : Inv X pins σ H s) (h : SqT X.K H a xs) : ∃ its : List Value, Vals xs its ∧ IsTup s.heap a its.toArray ∧ xs.length ≤ sizeLine := by
  rcases h with h | ⟨o, its, n, hk, hc, hs, hz, r⟩
  · obtain ⟨z, its, r, p⟩ := h.ok I.hok
    exact ⟨its, r, p.tup, z⟩
  · refine ⟨its.toList, r, ⟨o, I.kIn a o hk, hc, n, by simpa using hs⟩, ?_⟩
    have e := r.length
    simp only [Array.length_toList] at e
    omega
theorem Inv.list_inj (I : Inv X pins σ H s) (h : SqL X.K H a xs) (h' : SqL X.K H a ys) : xs = ys := by
  obtain ⟨its, r, ⟨o, n, e, _, _, d⟩, _⟩ := I.list h
  obtain ⟨its', r', ⟨o', n', e', _, _, d'⟩, _⟩ := I.list h'
  rw [e] at e'; cases e'
  rw [d] at d'
  injection d' with d1 _
  have : its = its' := by simpa using congrArg Array.toList d1
  subst this
  exact r.inj r'
end

/-! ### another wish about exceptions -/
abbrev Cx.wish (X : Cx) (E : Value → Shared → Prop) : Cx := { X with xe := E }
/-- no exception leaves -/
abbrev Cx.nox (X : Cx) : Cx := X.wish fun _ _ => False
theorem Cx.Ok.wish {X : Cx} (ok : X.Ok) (E : Value → Shared → Prop) : (X.wish E).Ok :=
  ⟨ok.mod, ok.kind, ok.glob, ok.blt, ok.above, ok.inj, ok.has, ok.cab, ok.hd, ok.frames, ok.stk, ok.exf, ok.bs, ok.bsz, ok.noex, ok.exfs, ok.funs, ok.frf⟩
theorem Cx.Ok.unwish {X : Cx} {E : Value → Shared → Prop} (ok : (X.wish E).Ok) : X.Ok :=
  ⟨ok.mod, ok.kind, ok.glob, ok.blt, ok.above, ok.inj, ok.has, ok.cab, ok.hd, ok.frames, ok.stk, ok.exf, ok.bs, ok.bsz, ok.noex, ok.exfs, ok.funs, ok.frf⟩
section
variable {X : Cx} {pins : List (Addr × Obj)} {σ : St} {H : Hp} {s : Shared} {E : Value → Shared → Prop}
theorem Inv.wish (I : Inv X pins σ H s) (E : Value → Shared → Prop) : Inv (X.wish E) pins σ H s := ⟨I.ok.wish E, I.os, I.bare, I.base, I.loc, I.cell, I.free, I.freeC, I.pin, I.hok, I.len⟩
theorem Inv.unwish (I : Inv (X.wish E) pins σ H s) : Inv X pins σ H s := ⟨I.ok.unwish, I.os, I.bare, I.base, I.loc, I.cell, I.free, I.freeC, I.pin, I.hok, I.len⟩
theorem SP.unwish {D : Ends} {f : Flow} {s' : Shared} (h : SP (X.wish E) pins D f s') : SP X pins D f s' := by
  cases f with
  | next => obtain ⟨σ', H', I, q⟩ := h; exact ⟨σ', H', I.unwish, q⟩
  | brk => obtain ⟨σ', H', I, q⟩ := h; exact ⟨σ', H', I.unwish, q⟩
  | cont => obtain ⟨σ', H', I, q⟩ := h; exact ⟨σ', H', I.unwish, q⟩
  | ret u => obtain ⟨v, σ', H', I, r, q⟩ := h; exact ⟨v, σ', H', I.unwish, r, q⟩
theorem PE.nox {e : Expr} {t : TE} (h : PE X.nox e t) : PE X e t := fun pins s σ H Q I hw =>
  wpAny_mono (h pins s σ H Q (I.wish _) hw) (fun _ _ ⟨v, H', I', r, q⟩ => ⟨v, H', I'.unwish, r, q⟩) fun _ _ z => False.elim z
theorem PT.nox {e : Expr} {t : TT} (h : PT X.nox e t) : PT X e t := fun pins s σ H Q I hw =>
  wpAny_mono (h pins s σ H Q (I.wish _) hw) (fun _ _ ⟨H', I', q⟩ => ⟨H', I'.unwish, q⟩) fun _ _ z => False.elim z
theorem PSs.nox {st : List Stmt} {t : TS} (h : PSs X.nox st t) : PSs X st t := fun pins s σ H D I hw =>
  wpAny_mono (h pins s σ H D (I.wish _) hw) (fun _ _ q => q.unwish) fun _ _ z => False.elim z
end

section
variable {X : Cx} {st : Stmt} {rest : List Stmt} {t u : TS} {e : Expr} {te : TE} {pos : Pos}
def tNext : TS := fun D σ H => D.nx σ H
def tSeq (t u : TS) : TS := fun D σ H => t { D with nx := u D } σ H
theorem pss_nil : PSs X [] tNext := fun _ _ σ H _ I h => wpAny_execs_nil ⟨σ, H, I, h⟩
theorem pss_cons (h1 : PS X st t) (h2 : PSs X rest u) : PSs X (st :: rest) (tSeq t u) := by
  intro pins s σ H D I h
  refine wpAny_execs_cons (thn (h1 pins s σ H { D with nx := u D } I h) fun f s1 q => ?_)
  cases f with
  | next =>
    obtain ⟨σ', H', I', q⟩ := q
    exact h2 pins s1 σ' H' D I' q
  | ret v => exact q
  | brk => exact q
  | cont => exact q
theorem pss_one (h1 : PS X st t) : PSs X [st] t := by
  intro pins s σ H D I h
  refine wpAny_execs_cons (thn (h1 pins s σ H D I h) fun f s1 q => ?_)
  cases f with
  | next => exact wpAny_execs_nil q
  | ret v => exact q
  | brk => exact q
  | cont => exact q
/-- in a def's body nothing is shown -/
theorem Inv.quiet {pins : List (Addr × Obj)} {σ : St} {H : Hp} {s : Shared} (I : Inv X pins σ H s) : interactive X.env = false := by simp [interactive, I.ok.kind]
/-- an expression whose value is dropped -/
def tDrop (te : TE) : TS := fun D σ H => te σ H fun _ H1 => D.nx σ H1
theorem ps_expr (he : PE X e te) (hs : swapsWith e none pos.line X.env = pure false := by rfl) : PS X (.Expr e pos) (tDrop te) := by
  intro pins s σ H D I h
  exact wpAny_Expr_any (thn (he pins s σ H _ I h) fun v s1 ⟨x, H1, I1, r1, q1⟩ => ⟨σ, H1, I1, q1⟩) I.quiet hs
def tRet (te : TE) : TS := fun D σ H => te σ H D.rt
theorem ps_ret (he : PE X e te) : PS X (.Return (some e) pos) (tRet te) := by
  intro pins s σ H D I h
  exact wpAny_Return_some (thn (he pins s σ H _ I h) fun v s1 ⟨x, H1, I1, r1, q1⟩ => ⟨x, σ, H1, I1, r1, q1⟩)
def tRetN : TS := fun D _ H => D.rt .non H
def tIfS (c : TT) (t u : TS) : TS := fun D σ H => c σ H fun b H1 => if b = true then t D σ H1 else u D σ H1
theorem ps_if {c : Expr} {a b : List Stmt} {tc : TT} (hc : PT X c tc) (ha : PSs X a t) (hb : PSs X b u) : PS X (.If c a b pos) (tIfS tc t u) := by
  intro pins s σ H D I h
  refine wpAny_If (thn (hc pins s σ H _ I h) fun d s1 ⟨H1, I1, q1⟩ => ?_)
  cases d with
  | true => exact ha pins s1 σ H1 D I1 q1
  | false => exact hb pins s1 σ H1 D I1 q1
end

/-! ### targets -/
abbrev TG := V → St → Hp → (St → Hp → Prop) → Prop
abbrev TGs := List V → St → Hp → (St → Hp → Prop) → Prop
def PG (X : Cx) (target : Expr) (t : TG) : Prop :=
  ∀ (pins : List (Addr × Obj)) (s : Shared) (σ : St) (H : Hp) (v : V) (u : Value) (Q : St → Hp → Prop), Inv X pins σ H s → RelV v u → t v σ H Q →
    wpAny (model X.prog X.w) X.A (assign target X.env u) (fun _ s' => ∃ σ' H', Inv X pins σ' H' s' ∧ Q σ' H') X.xe s
/-- several targets, one after another -/
def PGs (X : Cx) (ts : List Expr) (t : TGs) : Prop :=
  ∀ (pins : List (Addr × Obj)) (s : Shared) (σ : St) (H : Hp) (vs : List V) (us : List Value) (Q : St → Hp → Prop), Inv X pins σ H s → Vals vs us → t vs σ H Q →
    wpAny (model X.prog X.w) X.A (assignInOrder ((assignEach ts X.env).map (·.2)) us) (fun _ s' => ∃ σ' H', Inv X pins σ' H' s' ∧ Q σ' H') X.xe s
/-- o[i] = v, by values -/
abbrev TSet := V → V → V → Hp → (Hp → Prop) → Prop
def PSet (X : Cx) (t : TSet) : Prop :=
  ∀ (pins : List (Addr × Obj)) (s : Shared) (σ : St) (H : Hp) (o i v : V) (ov iv u : Value) (Q : Hp → Prop), Inv X pins σ H s → RelV o ov → RelV i iv → RelV v u → t o i v H Q →
    wpAny (model X.prog X.w) X.A (setItem ov iv u) (fun _ s' => ∃ H', Inv X pins σ H' s' ∧ Q H') X.xe s
section
variable {X : Cx} {pos : Pos}
def gName (i : Nat) : TG := fun v σ H Q => Q (σ.set i (some v)) H
theorem pg_name {i : Nat} {x : Str} (hN : X.N.Nodup) (hi : X.N[i]? = some x) (hx : Loc X.env.scope x) (hf : X.fn x = true ∨ X.env.scope.names.lookup x = some .local := by first | exact .inl rfl | exact .inr rfl | assumption) : PG X (.Name x pos) (gName i) := by
  intro pins s σ H v u Q I r h
  exact wpAny_assign_Name (store_ok I hN hi hx r (fun s' I' => ⟨_, H, I', h⟩) hf)
def gNil : TGs := fun vs σ H Q => vs = [] ∧ Q σ H
def gCons (t : TG) (u : TGs) : TGs := fun vs σ H Q => ∃ v r, vs = v :: r ∧ t v σ H fun σ' H' => u r σ' H' Q
theorem pgs_nil : PGs X [] gNil := by
  intro pins s σ H vs us Q I r h
  obtain ⟨e, h⟩ := h
  subst e
  cases r
  exact assignInOrder_nil ⟨σ, H, I, h⟩
theorem pgs_cons {e : Expr} {es : List Expr} {t : TG} {u : TGs} (h1 : PG X e t) (h2 : PGs X es u)
    (hs : (assignEach (e :: es) X.env).map (·.2) = assign e X.env :: (assignEach es X.env).map (·.2) := by rfl) : PGs X (e :: es) (gCons t u) := by
  intro pins s σ H vs us Q I r h
  obtain ⟨v, vr, e1, h⟩ := h
  subst e1
  cases r with
  | cons r rr =>
    rw [hs]
    refine assignInOrder_cons (thn (h1 pins s σ H _ _ _ I r h) fun _ s1 ⟨σ1, H1, I1, q1⟩ => ?_)
    exact h2 pins s1 σ1 H1 _ _ Q I1 rr q1
/-- (a, b, ..) = a tuple of that length -/
def gTup (K : PySem.W.Frag) (n : Nat) (t : TGs) : TG := fun v σ H Q => ∃ a xs, v = .ref a ∧ SqT K H a xs ∧ xs.length = n ∧ t xs σ H Q
theorem pg_tup {es : List Expr} {k : Nat} {t : TGs} {n : Nat} (hc : X.calm = true) (h : PGs X es t)
    (hn : (assignEach es X.env).length = n := by rfl) (hst : (assignEach es X.env).findIdx? (·.1) = none := by rfl) : PG X (.Tuple es k pos) (gTup X.K n t) := by
  intro pins s σ H v u Q I r hw
  obtain ⟨a, xs, e1, hq, hl, hw⟩ := hw
  subst e1
  cases r
  obtain ⟨its, rv, ht, hz⟩ := I.tuple hq
  refine assign_Tuple_tuple (I.ok.hd hc) ht (by simp [hn, ← hl, rv.length]) hst fun h' hx => ?_
  have I1 : Inv X pins σ H { s with heap := h' } := I.kept (t' := s.toks) fun b o e => hx b o (Nat.ne_of_lt (Heap.lt_size e)) e
  exact h pins _ σ H xs _ Q I1 (by simpa using rv) hw
/-- o[i] = .. -/
def gSub (to ti : TE) (t : TSet) : TG := fun v σ H Q => to σ H fun o H1 => ti σ H1 fun i H2 => t o i v H2 fun H3 => Q σ H3
theorem pg_sub {o i : Expr} {to ti : TE} {t : TSet} (ho : PE X o to) (hi : PE X i ti) (hs : PSet X t)
    (ha : ∀ v, assign (.Subscript o i pos) X.env v = (do
      let ov ← holding [v] (eval o X.env)
      let iv ← holding [v, ov] (eval i X.env)
      standAt pos
      holding [v, ov, iv] (setItem ov iv v)
      release [v, ov, iv] []) := by intro _; rfl) : PG X (.Subscript o i pos) (gSub to ti t) := by
  intro pins s σ H v u Q I r h
  rw [ha]
  refine wpAny_bind (wpAny_holding (thn (ho pins s σ H _ I h) fun ov s1 ⟨x, H1, I1, r1, q1⟩ => ?_))
  refine wpAny_bind (wpAny_holding (thn (hi pins s1 σ H1 _ I1 q1) fun iv s2 ⟨y, H2, I2, r2, q2⟩ => ?_))
  refine wpAny_bind (wpAny_standAt (wpAny_bind (wpAny_holding (thn (hs pins s2 σ H2 x y v ov iv u _ I2 r1 r2 r q2) fun _ s3 ⟨H3, I3, q3⟩ => ?_))))
  exact wpAny_release ⟨σ, H3, I3, q3⟩
/-- target = value -/
def tAsg (te : TE) (g : TG) : TS := fun D σ H => te σ H fun x H1 => g x σ H1 D.nx
theorem ps_asg {tg e : Expr} {te : TE} {g : TG} (he : PE X e te) (hg : PG X tg g) (hs : swapsWithSole [tg] e pos.line X.env = pure false := by rfl) (hw : swappedStores [tg] e X.env = pure none := by rfl)
    (h1 : (assignEach [tg] X.env).map (·.2) = [assign tg X.env] := by rfl) : PS X (.Assign [tg] e pos) (tAsg te g) := by
  intro pins s σ H D I h
  refine wpAny_Assign_stores (thn (he pins s σ H _ I h) fun v s1 ⟨x, H1, I1, r1, q1⟩ => ?_) hs hw
  rw [h1]
  exact thn (hg pins s1 σ H1 x v _ I1 r1 q1) fun _ s2 q => q
/-- name = value -/
theorem ps_set {i : Nat} {x : Str} {e : Expr} {te : TE} {pos' : Pos} (hN : X.N.Nodup) (hi : X.N[i]? = some x) (hx : Loc X.env.scope x) (he : PE X e te) (hs : swapsWith e (some (.Name x pos')) pos.line X.env = pure false := by rfl) (hf : X.fn x = true ∨ X.env.scope.names.lookup x = some .local := by first | exact .inl rfl | exact .inr rfl | assumption) :
    PS X (.Assign [.Name x pos'] e pos) (tAsg te (gName i)) := by
  intro pins s σ H D I h
  refine wpAny_Assign_Name (thn (he pins s σ H _ I h) fun v s1 ⟨y, H1, I1, r1, q1⟩ => ?_) hs
  exact store_ok I1 hN hi hx r1 (fun s2 I2 => ⟨_, H1, I2, q1⟩) hf
end

section
variable {X : Cx} {pos : Pos}
end

/-- at turn i: it yields x (the heap may grow), or it stops -/
structure It where
  go : Nat → Hp → Prop
  yld : Nat → Hp → V → Hp → Prop
  stop : Nat → Hp → Prop
/-- the iterator's own objects may turn: they are not the frame's, not pinned, younger than the entry (or a comprehension's own) -/
def FpOk (X : Cx) (pins : List (Addr × Obj)) (H : Hp) (b : Addr) : Prop :=
  H b = none ∧ b ≠ X.env.locals ∧ b ∉ X.fs ∧ (b ∈ X.ex ∨ X.s₀.heap.objs.size ≤ b) ∧ (∀ x c, X.env.cells.lookup x = some c → c ≠ b) ∧ ∀ p ∈ X.pn ++ pins, p.1 ≠ b
theorem Inv.fpOk {X : Cx} {pins : List (Addr × Obj)} {σ : St} {H H' : Hp} {s : Shared} {b : Addr} (I : Inv X pins σ H s) (hb : s.heap.objs.size ≤ b) (hn : H' b = none) : FpOk X pins H' b := by
  refine ⟨hn, Nat.ne_of_gt (Nat.lt_of_lt_of_le I.lt hb), I.nofs hb, .inr (Nat.le_trans I.sz hb), fun x c e z => ?_, fun p hp z => ?_⟩
  · obtain ⟨v, q⟩ := I.cell x c e
    exact absurd (Nat.lt_of_lt_of_le q.lt (by rw [z]; exact hb)) (Nat.lt_irrefl _)
  · exact absurd (Nat.lt_of_lt_of_le (Heap.lt_size (I.pin p hp).1) (by rw [z]; exact hb)) (Nat.lt_irrefl _)
structure Turn (P : Program) (w : World) (K : PySem.W.Frag) (tg : Expr) (J : It) (fp : List Addr) (it : Addr) (tn : Nat → Heap → Prop) : Prop where
  mem : it ∈ fp
  obj : ∀ i h, tn i h → ∀ b ∈ fp, ∃ o, h.get? b = some o ∧ ∀ v, o.data ≠ .cell v
  keep : ∀ i h h', tn i h → (∀ b ∈ fp, ∀ o, h.get? b = some o → h'.get? b = some o) → tn i h'
  item : ∀ (X : Cx), X.prog = P → X.w = w → X.K = K → X.calm = true → ∀ (i : Nat) (pins : List (Addr × Obj)) (s : Shared) (σ : St) (H : Hp) (E : Value → Shared → Prop), Inv X pins σ H s → (∀ b ∈ fp, FpOk X pins H b) → tn i s.heap → J.go i H →
    wpAny (model P w) X.A (pyNext (.ref it)) (fun r s1 => ∃ u, r = some u ∧
      wpAny (model P w) X.A (letOwnedTupleGo tg (.ref it) u) (fun _ s2 => ∃ x H', Inv X pins σ H' s2 ∧ RelV x u ∧ J.yld i H x H' ∧ tn (i + 1) s2.heap ∧ ∀ b ∈ fp, H' b = none) E s1) E s
  done : ∀ (X : Cx), X.prog = P → X.w = w → X.K = K → X.calm = true → ∀ (i : Nat) (pins : List (Addr × Obj)) (s : Shared) (σ : St) (H : Hp) (E : Value → Shared → Prop), Inv X pins σ H s → (∀ b ∈ fp, FpOk X pins H b) → tn i s.heap → J.stop i H →
    wpAny (model P w) X.A (pyNext (.ref it)) (fun r s1 => r = none ∧ Inv X pins σ H s1) E s
  self : ∀ (A : Around) (i : Nat) (s : Shared) (Q : Value → Shared → Prop) (E : Value → Shared → Prop), tn i s.heap → Q (.ref it) s → wpAny (model P w) A (pyIter (.ref it)) Q E s
abbrev TI := St → Hp → (It → Hp → Prop) → Prop
/-- an iterator has come -/
def PIE (X : Cx) (pins : List (Addr × Obj)) (σ : St) (tg : Expr) (R : It → Hp → Prop) (itv : Value) (s2 : Shared) : Prop :=
  ∃ (it : Addr) (fp : List Addr) (tn : Nat → Heap → Prop) (J : It) (H' : Hp), itv = .ref it ∧ Inv X pins σ H' s2 ∧ Turn X.prog X.w X.K tg J fp it tn ∧ tn 0 s2.heap ∧ (∀ b ∈ fp, FpOk X pins H' b) ∧ R J H'
def PI (X : Cx) (tg iter : Expr) (wi : TI) : Prop :=
  ∀ (pins : List (Addr × Obj)) (s : Shared) (σ : St) (H : Hp) (R : It → Hp → Prop), Inv X pins σ H s → wi σ H R →
    wpAny (model X.prog X.w) X.A (eval iter X.env) (fun v s1 => wpAny (model X.prog X.w) X.A (pyIter v) (PIE X pins σ tg R) X.xe s1) X.xe s

/-- the step ahead of the store is nothing for an iterator that keeps no tuple -/
theorem go_of {M : Model} {A : Around} {E : Value → Shared → Prop} {s : Shared} {tg : Expr} {it : Addr} {u : Value} {o : Obj} {n : String} {vs : Array Value} {Q : Unit → Shared → Prop} (ho : s.heap.get? it = some o) (hc : o.cls = .type n) (hd : o.data = .fields vs)
    (hn : ["enumerate", "zip", "dict_itemiterator", "dict_reverseitemiterator", "odict_iterator", "itertools.zip_longest", "itertools.pairwise"].contains n = false) (hQ : Q () s) : wpAny M A (letOwnedTupleGo tg (.ref it) u) Q E s := by
  unfold letOwnedTupleGo
  cases tg <;> first
    | exact wpAny_pure hQ
    | (cases u <;> first
        | exact wpAny_pure hQ
        | (refine wpAny_bind (wpAny_load ho ?_)
           rw [hc, hd]
           show wpAny M A (if (["enumerate", "zip", "dict_itemiterator", "dict_reverseitemiterator", "odict_iterator", "itertools.zip_longest", "itertools.pairwise"].contains n && vs[0]? == some (rawInt _)) = true then _ else _) Q E s
           rw [if_neg (by intro h; rw [hn, Bool.false_and] at h; cases h)]
           exact wpAny_pure hQ))

/-- the list at a, as it stands at each turn (a loop may append to it) -/
def Itl (K : PySem.W.Frag) (a : Addr) : It :=
  ⟨fun i H => ∃ xs x, SqL K H a xs ∧ xs[i]? = some x, fun i H x H' => H' = H ∧ ∀ xs, SqL K H a xs → xs[i]? = some x, fun i H => ∃ xs, SqL K H a xs ∧ xs.length ≤ i⟩
def Itt (K : PySem.W.Frag) (a : Addr) : It :=
  ⟨fun i H => ∃ xs x, SqT K H a xs ∧ xs[i]? = some x, fun i H x H' => H' = H ∧ ∀ xs, SqT K H a xs → xs[i]? = some x, fun i H => ∃ xs, SqT K H a xs ∧ xs.length ≤ i⟩
/-- lo, lo + 1, .. (n of them) -/
def Itr (lo : Int) (n : Nat) : It := ⟨fun i _ => i < n, fun i H x H' => H' = H ∧ x = .int (lo + i), fun i _ => n ≤ i⟩
theorem turn_list {P : Program} {w : World} {K : PySem.W.Frag} {tg : Expr} (a it : Addr) : Turn P w K tg (Itl K a) [it] it (fun i h => h.IsListIter it a i) where
  mem := by simp
  obj := fun i h st b hb => by
    have e : b = it := by simpa using hb
    subst e
    obtain ⟨o, e, c, d⟩ := st
    exact ⟨o, e, fun v z => by rw [d] at z; cases z⟩
  keep := fun i h h' st k => st.at fun o e => k it (by simp) o e
  item := by
    intro X hP hw hK hc i pins s σ H E I hf st hg
    subst hP hw hK
    obtain ⟨xs, x, hq, hx⟩ := hg
    obtain ⟨its, rv, p, hz⟩ := I.list hq
    obtain ⟨u, hu, ru⟩ := rv.get hx
    obtain ⟨f0, f1, f2, f3, f4, f5⟩ := hf it (by simp)
    refine wpAny_pyNext_list_item st p.isList (x := u) (by simpa using hu) fun h' st' sb => ?_
    have I1 : Inv X pins σ H { s with heap := h' } := I.turned (t' := s.toks) (fun b o hb e => (sb.2 b hb).trans e) f0 f1 f3 f4 f5
    obtain ⟨o, e, c, d⟩ := id st'
    exact ⟨u, rfl, go_of (s := { s with heap := h' }) e c d (by decide) ⟨x, H, I1, ru, ⟨rfl, fun ys hy => by rw [I.list_inj hy hq]; exact hx⟩, st', fun b hb => (hf b hb).1⟩⟩
  done := by
    intro X hP hw hK hc i pins s σ H E I hf st hg
    subst hP hw hK
    obtain ⟨xs, hq, hx⟩ := hg
    obtain ⟨its, rv, p, hz⟩ := I.list hq
    obtain ⟨f0, f1, f2, f3, f4, f5⟩ := hf it (by simp)
    have hl := rv.length
    exact wpAny_pyNext_list_end (I.ok.hd hc) st p.isList (by simp; omega) fun h' eb => ⟨rfl, I.turned (t' := s.toks) (fun b o hb e => eb b o hb e) f0 f1 f3 f4 f5⟩
  self := fun _ _ _ _ _ st h => wpAny_pyIter_listiter st h
theorem turn_range {P : Program} {w : World} {K : PySem.W.Frag} {tg : Expr} (it : Addr) (lo : Int) (n : Nat) : Turn P w K tg (Itr lo n) [it] it (fun i h => IsRangeIter h it (lo + (i : Nat) * 1) ((n : Int) - (i : Nat)) 1) where
  mem := by simp
  obj := fun i h st b hb => by
    have e : b = it := by simpa using hb
    subst e
    exact ⟨_, st, fun v z => by
      have z' : Data.fields _ = Data.cell v := z
      cases z'⟩
  keep := fun i h h' st k => k it (by simp) _ st
  item := by
    intro X hP hw hK hc i pins s σ H E I hf st hg
    subst hP hw hK
    obtain ⟨f0, f1, f2, f3, f4, f5⟩ := hf it (by simp)
    have W := Walks.range (prog := X.prog) (w := X.w) (I.ok.hd hc) it lo 1 n
    refine W.item i s _ _ hg st fun v h' tk hv st' kk => ?_
    obtain ⟨t, rfl⟩ := hv
    have I1 : Inv X pins σ H { s with heap := h', toks := tk } := I.turned (fun b o hb e => kk b o (by simpa using hb) e) f0 f1 f3 f4 f5
    refine ⟨_, rfl, go_of (s := { s with heap := h', toks := tk }) (n := "range_iterator") st' rfl rfl (by decide) ⟨.int (lo + i), H, I1, ⟨t, ?_⟩, ⟨rfl, rfl⟩, st', fun b hb => (hf b hb).1⟩⟩
    rw [Int.mul_one]
  done := by
    intro X hP hw hK hc i pins s σ H E I hf st hg
    subst hP hw hK
    obtain ⟨f0, f1, f2, f3, f4, f5⟩ := hf it (by simp)
    exact wpAny_pyNext_range_end (I.ok.hd hc) st (by have : n ≤ i := hg; omega) fun h' eb => ⟨rfl, I.turned (t' := s.toks) (fun b o hb e => eb b o hb e) f0 f1 f3 f4 f5⟩
  self := fun _ _ _ _ _ st h => wpAny_pyIter_rangeiter st h
end L2

namespace L2
open PySem PySem.Spec PyProof.Rows
section
variable {X : Cx} {tg : Expr}
def iList (K : PySem.W.Frag) (tl : TE) : TI := fun σ H R => tl σ H fun x H1 => ∃ a, x = .ref a ∧ (∃ xs, SqL K H1 a xs) ∧ R (Itl K a) H1
def iTup (K : PySem.W.Frag) (tl : TE) : TI := fun σ H R => tl σ H fun x H1 => ∃ a, x = .ref a ∧ (∃ xs, SqT K H1 a xs) ∧ R (Itt K a) H1
theorem pi_list {l : Expr} {tl : TE} (hl : PE X l tl) : PI X tg l (iList X.K tl) := by
  intro pins s σ H R I h
  refine thn (hl pins s σ H _ I h) fun v s1 ⟨x, H1, I1, r1, q1⟩ => ?_
  obtain ⟨a, e, ⟨xs, hq⟩, q⟩ := q1
  subst e
  cases r1
  obtain ⟨its, rv, p, hz⟩ := I1.list hq
  refine wpAny_pyIter_list p.isList ?_
  refine ⟨s1.heap.objs.size, [s1.heap.objs.size], _, _, H1, rfl, I1.kept (t' := s1.toks) fun b o e => Heap.get?_push_of_some _ e, turn_list a _, ⟨_, Heap.get?_push_size _ rfl, rfl, rfl⟩, fun b hb => ?_, q⟩
  have e : b = s1.heap.objs.size := by simpa using hb
  subst e
  exact I1.fpOk (Nat.le_refl _) (I1.hok.fresh (Nat.le_refl _))
/-- a range object just made, walked -/
theorem range_it {pins : List (Addr × Obj)} {σ : St} {H : Hp} {s : Shared} {R : It → Hp → Prop} {E : Value → Shared → Prop} {lo hi : Int} {t u v : Tok} {tk : Nat} (I : Inv X pins σ H s) (h1 : -(2 ^ 62) ≤ lo) (h2 : lo < 2 ^ 62) (h3 : -(2 ^ 62) ≤ hi) (h4 : hi < 2 ^ 62)
    (q : R (Itr lo (hi - lo).toNat) H) : wpAny (model X.prog X.w) X.A (pyIter (.ref s.heap.objs.size)) (PIE X pins σ tg R) E { s with heap := s.heap.push { cls := .type "range", data := .fields #[.int lo t, .int hi u, .int 1 v] }, toks := tk } := by
  refine wpAny_pyIter_range (IsRange.new ..) (small_one h1 h2 h3 h4) ?_
  have I1 : Inv X pins σ H { s with heap := s.heap.push { cls := .type "range", data := .fields #[.int lo t, .int hi u, .int 1 v] }, toks := tk } := I.kept fun b o e => Heap.get?_push_of_some _ e
  refine ⟨(s.heap.push { cls := .type "range", data := .fields #[.int lo t, .int hi u, .int 1 v] }).objs.size, [(s.heap.push { cls := .type "range", data := .fields #[.int lo t, .int hi u, .int 1 v] }).objs.size], _, _, H, rfl,
    I1.kept (t' := tk) fun b o e => Heap.get?_push_of_some _ e, turn_range _ lo (hi - lo).toNat, ?_, fun b hb => ?_, q⟩
  · have e1 : lo + ((0 : Nat) : Int) * 1 = lo := by simp
    have e2 : (((hi - lo).toNat : Nat) : Int) - ((0 : Nat) : Int) = Builtin.Range.rangeSize lo hi 1 := by rw [rangeSize_one]; split <;> omega
    show IsRangeIter _ _ (lo + ((0 : Nat) : Int) * 1) ((((hi - lo).toNat : Nat) : Int) - ((0 : Nat) : Int)) 1
    rw [e1, e2]
    exact Heap.get?_push_size _ rfl
  · have e : b = (s.heap.push { cls := .type "range", data := .fields #[.int lo t, .int hi u, .int 1 v] }).objs.size := by simpa using hb
    subst e
    exact I1.fpOk (Nat.le_refl _) (I1.hok.fresh (Nat.le_refl _))
def iRng1 (ta : TA) : TI := fun σ H R => ta σ H fun vs H1 => ∃ j : Int, vs = [.int j] ∧ -(2 ^ 62) ≤ j ∧ j < 2 ^ 62 ∧ R (Itr 0 j.toNat) H1
def iRng2 (ta : TA) : TI := fun σ H R => ta σ H fun vs H1 => ∃ i j : Int, vs = [.int i, .int j] ∧ (-(2 ^ 62) ≤ i ∧ i < 2 ^ 62 ∧ -(2 ^ 62) ≤ j ∧ j < 2 ^ 62) ∧ R (Itr i (j - i).toNat) H1
theorem pi_range1 {a : Expr} {ta : TA} {p pos : Pos} (hg : Gl X "range") (hm : X.mg "range" = none) (ha : PA X [a] ta) (hs : starEach [a] X.env = [(false, eval a X.env)] := by rfl) : PI X tg (.Call (.Name "range" p) [a] [] pos) (iRng1 ta) := by
  intro pins s σ H R I h
  refine Call_ (ld_blt I hg hm boot_range (PyProof.Rows.callWith_type1 (thn (ha pos pins s σ H _ I h) fun us s1 ⟨vs, H1, I1, r1, q1⟩ => ?_) hs rfl))
  obtain ⟨j, e, q1, q2, q⟩ := q1
  subst e
  cases r1 with
  | cons r rr =>
    cases rr
    obtain ⟨t, rfl⟩ := r
    exact call_range_1 (range_it I1 (by omega) (by omega) q1 q2 (by simpa using q))
theorem pi_range2 {a b : Expr} {ta : TA} {p pos : Pos} (hg : Gl X "range") (hm : X.mg "range" = none) (ha : PA X [a, b] ta) (hs : starEach [a, b] X.env = [(false, eval a X.env), (false, eval b X.env)] := by rfl) (hs2 : starEach [b] X.env = [(false, eval b X.env)] := by rfl) :
    PI X tg (.Call (.Name "range" p) [a, b] [] pos) (iRng2 ta) := by
  intro pins s σ H R I h
  refine Call_ (ld_blt I hg hm boot_range (PyProof.Rows.callWith_type1 (thn (ha pos pins s σ H _ I h) fun us s1 ⟨vs, H1, I1, r1, q1⟩ => ?_) (by rw [hs, hs2]) (by rw [hs2]; rfl)))
  obtain ⟨i, j, e, ⟨q1, q2, q3, q4⟩, q⟩ := q1
  subst e
  cases r1 with
  | cons r rr =>
    cases rr with
    | cons r' rr =>
      cases rr
      obtain ⟨t, rfl⟩ := r
      obtain ⟨t', rfl⟩ := r'
      exact call_range_2 (range_it I1 q1 q2 q3 q4 q)

/-- W: the invariant by the turn and a measure; N: what the body is to reach -/
def tFor (wi : TI) (g : TG) (tb : TS) : TS := fun D σ H => wi σ H fun J H1 => ∃ W : Nat → Nat → St → Hp → Prop, (∃ m, W 0 m σ H1) ∧ ∀ i m σ H, W i m σ H →
  (J.stop i H ∧ D.nx σ H) ∨ (J.go i H ∧ ∃ N : St → Hp → Prop, (∀ σ' H', N σ' H' → ∃ m', m' < m ∧ W (i + 1) m' σ' H') ∧ ∀ x H', J.yld i H x H' → g x σ H' fun σ2 H2 => tb { D with nx := N, ct := N, bk := D.nx } σ2 H2)
/-- the records at fp as they stand -/
def pinsAt (fp : List Addr) (h : Heap) : List (Addr × Obj) := fp.filterMap fun b => (h.get? b).map fun o => (b, o)
theorem mem_pinsAt {fp : List Addr} {h : Heap} {b : Addr} {o : Obj} (hb : b ∈ fp) (e : h.get? b = some o) : (b, o) ∈ pinsAt fp h := List.mem_filterMap.mpr ⟨b, hb, by rw [e]; rfl⟩
theorem of_pinsAt {fp : List Addr} {h : Heap} {p : Addr × Obj} (hp : p ∈ pinsAt fp h) : p.1 ∈ fp ∧ h.get? p.1 = some p.2 := by
  obtain ⟨b, hb, e⟩ := List.mem_filterMap.mp hp
  cases q : h.get? b with
  | none => rw [q] at e; cases e
  | some o =>
    rw [q] at e
    have e' : (b, o) = p := Option.some.inj e
    subst e'
    exact ⟨hb, q⟩
theorem Inv.pinned {pins : List (Addr × Obj)} {σ : St} {H : Hp} {s : Shared} {fp : List Addr} (I : Inv X pins σ H s) (hf : ∀ b ∈ fp, FpOk X pins H b) (ho : ∀ b ∈ fp, ∃ o, s.heap.get? b = some o ∧ ∀ v, o.data ≠ .cell v) : Inv X (pins ++ pinsAt fp s.heap) σ H s :=
  I.pins_of fun p hp => (List.mem_append.mp hp).elim (fun z => I.pin p (List.mem_append_right _ z)) fun z => by
    obtain ⟨hb, e⟩ := of_pinsAt z
    obtain ⟨f0, f1, f2, _⟩ := hf p.1 hb
    obtain ⟨o, e', d⟩ := ho p.1 hb
    rw [e] at e'; cases e'
    exact ⟨e, f0, f1, f2, d⟩
theorem Inv.unpinned {pins pl : List (Addr × Obj)} {σ : St} {H : Hp} {s : Shared} (I : Inv X (pins ++ pl) σ H s) : Inv X pins σ H s := I.pins_of fun p hp => I.pin p (List.mem_append_right _ (List.mem_append_left _ hp))
theorem ps_for {iter : Expr} {body : List Stmt} {wi : TI} {g : TG} {tb : TS} {pos : Pos} (hp : PassesOwn (model X.prog X.w) X.A X.env X.xe) (hc : X.calm = true) (hi : PI X tg iter wi) (hg : PG X tg g) (hb : PSs X body tb)
    (hs : ∀ x, foldedSetIterable iter X.env x = pure x := by intro _; rfl) : PS X (.For tg iter body [] pos) (tFor wi g tb) := by
  intro pins s σ H D I h
  refine wpAny_For (thn (hi pins s σ H _ I h) fun v s1 h1 => thn h1 fun itv s2 h2 => ?_) hs
  obtain ⟨it, fp, tn, J, H2, e, I2, T, st2, f2, W, ⟨m0, w0⟩, turn⟩ := h2
  subst e
  -- what stays true of the iterator's objects through the loop
  have stat : ∀ {H' : Hp}, (∀ b ∈ fp, H' b = none) → ∀ b ∈ fp, FpOk X pins H' b := fun hn b hb => ⟨hn b hb, (f2 b hb).2⟩
  refine codeAny_forLoop_any (fun n s' => ∃ i σ' H', Inv X pins σ' H' s' ∧ tn i s'.heap ∧ (∀ b ∈ fp, H' b = none) ∧ W i n σ' H') ?_ m0 ⟨0, σ, H2, I2, st2, fun b hb => (f2 b hb).1, w0⟩
  rintro n s3 ⟨i, σ3, H3, I3, st3, fr3, w3⟩
  rcases turn i n σ3 H3 w3 with ⟨stop, qn⟩ | ⟨go, N, hN, step⟩
  · refine wpAny_passesOwn hp (thn (T.done X rfl rfl rfl hc i pins s3 σ3 H3 X.xe I3 (stat fr3) st3 stop) fun r s4 ⟨hr, I4⟩ => ?_)
    subst hr
    exact wpAny_execs_nil ⟨σ3, H3, I4, qn⟩
  · refine wpAny_passesOwn hp (thn (T.item X rfl rfl rfl hc i pins s3 σ3 H3 X.xe I3 (stat fr3) st3 go) fun r s4 ⟨u, hr, h4⟩ => ?_)
    subst hr
    refine wpAny_passesOwn hp (thn h4 fun _ s5 ⟨x, H5, I5, r5, y5, st5, fr5⟩ => ?_)
    have I5' := I5.pinned (stat fr5) (T.obj _ _ st5)
    refine wpAny_passesOwn hp (thn (hg _ s5 σ3 H5 x u _ I5' r5 (step x H5 y5)) fun _ s6 ⟨σ6, H6, I6, q6⟩ => ?_)
    refine wpAny_passesOwn hp (thn (hb _ s6 σ6 H6 _ I6 q6) fun f s7 q7 => ?_)
    have again : ∀ {σ7 : St} {H7 : Hp}, Inv X (pins ++ pinsAt fp s5.heap) σ7 H7 s7 → N σ7 H7 → ∃ m, m < n ∧ ∃ i σ' H', Inv X pins σ' H' s7 ∧ tn i s7.heap ∧ (∀ b ∈ fp, H' b = none) ∧ W i m σ' H' := fun {σ7 H7} I7 n7 => by
      obtain ⟨m', hm, w7⟩ := hN σ7 H7 n7
      refine ⟨m', hm, i + 1, σ7, H7, I7.unpinned, T.keep _ _ _ st5 fun b hb o e => (I7.pin (b, o) (List.mem_append_right _ (List.mem_append_right _ (mem_pinsAt hb e)))).1, fun b hb => ?_, w7⟩
      obtain ⟨o, e, d⟩ := T.obj _ _ st5 b hb
      exact (I7.pin (b, o) (List.mem_append_right _ (List.mem_append_right _ (mem_pinsAt hb e)))).2.1
    cases f with
    | next => obtain ⟨σ7, H7, I7, n7⟩ := q7; exact again I7 n7
    | cont => obtain ⟨σ7, H7, I7, n7⟩ := q7; exact again I7 n7
    | brk => obtain ⟨σ7, H7, I7, q7⟩ := q7; exact ⟨σ7, H7, I7.unpinned, q7⟩
    | ret v => obtain ⟨x7, σ7, H7, I7, r7, q7⟩ := q7; exact ⟨x7, σ7, H7, I7.unpinned, r7, q7⟩
end

/-- over a list that the body leaves as it is -/
theorem for_list {K : PySem.W.Frag} {a : Addr} {xs : List V} {g : TG} {tb : TS} {D : Ends} {σ : St} {H : Hp} (Pv : Nat → St → Hp → Prop) (h0 : Pv 0 σ H) (hl : ∀ i σ H, i ≤ xs.length → Pv i σ H → SqL K H a xs)
    (hs : ∀ i x σ H, xs[i]? = some x → Pv i σ H → g x σ H fun σ2 H2 => tb { D with nx := Pv (i + 1), ct := Pv (i + 1), bk := D.nx } σ2 H2) (hd : ∀ σ H, Pv xs.length σ H → D.nx σ H) :
    ∃ W : Nat → Nat → St → Hp → Prop, (∃ m, W 0 m σ H) ∧ ∀ i m σ H, W i m σ H →
      ((Itl K a).stop i H ∧ D.nx σ H) ∨ ((Itl K a).go i H ∧ ∃ N : St → Hp → Prop, (∀ σ' H', N σ' H' → ∃ m', m' < m ∧ W (i + 1) m' σ' H') ∧ ∀ x H', (Itl K a).yld i H x H' → g x σ H' fun σ2 H2 => tb { D with nx := N, ct := N, bk := D.nx } σ2 H2) := by
  refine ⟨fun i m σ H => m = xs.length - i ∧ i ≤ xs.length ∧ Pv i σ H, ⟨xs.length, by simp, Nat.zero_le _, h0⟩, ?_⟩
  rintro i m σ H ⟨rfl, hi, p⟩
  have q := hl i σ H hi p
  by_cases hlt : i < xs.length
  · refine .inr ⟨⟨xs, xs[i], q, by simp [hlt]⟩, Pv (i + 1), fun σ' H' p' => ⟨xs.length - (i + 1), by omega, rfl, hlt, p'⟩, fun x H' y => ?_⟩
    obtain ⟨e, y⟩ := y
    subst e
    exact hs i x σ _ (y xs q) p
  · have e : i = xs.length := by omega
    subst e
    exact .inl ⟨⟨xs, q, Nat.le_refl _⟩, hd σ H p⟩
theorem for_range {lo : Int} {n : Nat} {g : TG} {tb : TS} {D : Ends} {σ : St} {H : Hp} (Pv : Nat → St → Hp → Prop) (h0 : Pv 0 σ H)
    (hs : ∀ i σ H, i < n → Pv i σ H → g (.int (lo + i)) σ H fun σ2 H2 => tb { D with nx := Pv (i + 1), ct := Pv (i + 1), bk := D.nx } σ2 H2) (hd : ∀ σ H, Pv n σ H → D.nx σ H) :
    ∃ W : Nat → Nat → St → Hp → Prop, (∃ m, W 0 m σ H) ∧ ∀ i m σ H, W i m σ H →
      ((Itr lo n).stop i H ∧ D.nx σ H) ∨ ((Itr lo n).go i H ∧ ∃ N : St → Hp → Prop, (∀ σ' H', N σ' H' → ∃ m', m' < m ∧ W (i + 1) m' σ' H') ∧ ∀ x H', (Itr lo n).yld i H x H' → g x σ H' fun σ2 H2 => tb { D with nx := N, ct := N, bk := D.nx } σ2 H2) := by
  refine ⟨fun i m σ H => m = n - i ∧ i ≤ n ∧ Pv i σ H, ⟨n, by simp, Nat.zero_le _, h0⟩, ?_⟩
  rintro i m σ H ⟨rfl, hi, p⟩
  by_cases hlt : i < n
  · refine .inr ⟨hlt, Pv (i + 1), fun σ' H' p' => ⟨n - (i + 1), by omega, rfl, hlt, p'⟩, fun x H' y => ?_⟩
    obtain ⟨e, y⟩ := y
    subst e y
    exact hs i σ _ hlt p
  · have e : i = n := by omega
    subst e
    exact .inl ⟨Nat.le_refl _, hd σ H p⟩
end L2

namespace L2
open PySem PySem.Spec PyProof.Rows

abbrev R2 := V → V → Hp → VK → Prop
/-- a two-place operation on values: f is binaryOp op, inplaceOp op or compareOp op -/
def OpR (X : Cx) (f : Value → Value → Sem Value) (r : R2) : Prop :=
  ∀ (pins : List (Addr × Obj)) (s : Shared) (σ : St) (H : Hp) (x y : V) (v u : Value) (Q : VK), Inv X pins σ H s → RelV x v → RelV y u → r x y H Q →
    wpAny (model X.prog X.w) X.A (f v u) (EP X pins σ Q) X.xe s
/-- a one-place operation -/
def UnR (X : Cx) (f : Value → Sem Value) (r : V → Hp → VK → Prop) : Prop :=
  ∀ (pins : List (Addr × Obj)) (s : Shared) (σ : St) (H : Hp) (x : V) (v : Value) (Q : VK), Inv X pins σ H s → RelV x v → r x H Q →
    wpAny (model X.prog X.w) X.A (f v) (EP X pins σ Q) X.xe s
/-- a call of a value that is known (a builtin, a type) with values -/
def CallR (X : Cx) (f : Value) (r : List V → Hp → VK → Prop) : Prop :=
  ∀ (pins : List (Addr × Obj)) (s : Shared) (σ : St) (H : Hp) (xs : List V) (us : List Value) (Q : VK), Inv X pins σ H s → Vals xs us → r xs H Q →
    wpAny (model X.prog X.w) X.A (call f us) (EP X pins σ Q) X.xe s
/-- a value's truth -/
def TruR (X : Cx) (r : V → Hp → (Bool → Hp → Prop) → Prop) : Prop :=
  ∀ (pins : List (Addr × Obj)) (s : Shared) (σ : St) (H : Hp) (x : V) (v : Value) (Q : Bool → Hp → Prop), Inv X pins σ H s → RelV x v → r x H Q →
    wpAny (model X.prog X.w) X.A (truthy v) (TP X pins σ Q) X.xe s

def tOp (r : R2) (ta tb : TE) : TE := fun σ H Q => ta σ H fun x H1 => tb σ H1 fun y H2 => r x y H2 Q
def tUn (r : V → Hp → VK → Prop) (ta : TE) : TE := fun σ H Q => ta σ H fun x H1 => r x H1 Q
/-- ints in, under C, and a value out -/
def rI (C : Int → Int → Prop) (g : Int → Int → V) : R2 := fun x y H Q => ∃ i j, x = .int i ∧ y = .int j ∧ C i j ∧ Q (g i j) H
def rI0 (g : Int → Int → V) : R2 := fun x y H Q => ∃ i j, x = .int i ∧ y = .int j ∧ Q (g i j) H
def rU (g : Int → V) : V → Hp → VK → Prop := fun x H Q => ∃ i, x = .int i ∧ Q (g i) H

section
variable {X : Cx} {a b c : Expr} {ta tb tc : TE} {pos : Pos}

theorem binT (ha : PE X a ta) (hb : PE X b tb) {pins : List (Addr × Obj)} {s : Shared} {σ : St} {H : Hp} {R : V → V → Hp → Prop} (I : Inv X pins σ H s)
    (h : ta σ H fun x H1 => tb σ H1 fun y H2 => R x y H2) {Q : Value → Shared → Prop} {f : Value → Value → Sem Value}
    (hf : ∀ v u s2 x y H2, Inv X pins σ H2 s2 → RelV x v → RelV y u → R x y H2 → wpAny (model X.prog X.w) X.A (f v u) Q X.xe s2) :
    wpAny (model X.prog X.w) X.A (eval a X.env) (fun v s₁ => wpAny (model X.prog X.w) X.A (eval b X.env) (fun u s₂ => wpAny (model X.prog X.w) X.A (f v u) Q X.xe s₂) X.xe s₁) X.xe s := by
  refine thn (ha pins s σ H _ I h) fun v s1 ⟨x, H1, I1, r1, q1⟩ => ?_
  refine thn (hb pins s1 σ H1 _ I1 q1) fun u s2 ⟨y, H2, I2, r2, q2⟩ => ?_
  exact hf v u s2 x y H2 I2 r1 r2 q2

theorem pe_op {op : Operator} {r : R2} (ho : OpR X (binaryOp op) r) (ha : PE X a ta) (hb : PE X b tb) : PE X (.BinOp a op b pos) (tOp r ta tb) := by
  intro pins s σ H Q I h
  exact wpAny_BinOp (binT ha hb I h fun v u s2 x y H2 I2 rx ry q => ho pins s2 σ H2 x y v u Q I2 rx ry q)
theorem pe_un {op : UnaryOp} {r : V → Hp → VK → Prop} (ho : UnR X (unaryOp op) r) (ha : PE X a ta) : PE X (.UnaryOp op a pos) (tUn r ta) := by
  intro pins s σ H Q I h
  exact UnaryOp_ (thn (ha pins s σ H _ I h) fun v s1 ⟨x, H1, I1, r1, q1⟩ => ho pins s1 σ H1 x v Q I1 r1 q1)
/-! ### ints -/
theorem opI {f : Value → Value → Sem Value} {C : Int → Int → Prop} {g : Int → Int → Int}
    (rule : ∀ (i j : Int) (t u : Tok) (s : Shared) (Q : Value → Shared → Prop) (E : Value → Shared → Prop), C i j → Q (.int (g i j) s.toks) { s with toks := s.toks + 1 } → wpAny (model X.prog X.w) X.A (f (.int i t) (.int j u)) Q E s) :
    OpR X f (rI C fun i j => .int (g i j)) := by
  intro pins s σ H x y v u Q I rx ry h
  obtain ⟨i, j, rfl, rfl, hc, q⟩ := h
  obtain ⟨t, rfl⟩ := rx
  obtain ⟨t', rfl⟩ := ry
  exact rule i j t t' s _ _ hc ⟨.int (g i j), H, I.tok _, ⟨_, rfl⟩, q⟩
theorem opI0 {f : Value → Value → Sem Value} {g : Int → Int → Int}
    (rule : ∀ (i j : Int) (t u : Tok) (s : Shared) (Q : Value → Shared → Prop) (E : Value → Shared → Prop), Q (.int (g i j) s.toks) { s with toks := s.toks + 1 } → wpAny (model X.prog X.w) X.A (f (.int i t) (.int j u)) Q E s) :
    OpR X f (rI0 fun i j => .int (g i j)) := by
  intro pins s σ H x y v u Q I rx ry h
  obtain ⟨i, j, rfl, rfl, q⟩ := h
  obtain ⟨t, rfl⟩ := rx
  obtain ⟨t', rfl⟩ := ry
  exact rule i j t t' s _ _ ⟨.int (g i j), H, I.tok _, ⟨_, rfl⟩, q⟩
theorem opB0 {f : Value → Value → Sem Value} {g : Int → Int → Bool}
    (rule : ∀ (i j : Int) (t u : Tok) (s : Shared) (Q : Value → Shared → Prop) (E : Value → Shared → Prop), Q (.bool (g i j)) s → wpAny (model X.prog X.w) X.A (f (.int i t) (.int j u)) Q E s) :
    OpR X f (rI0 fun i j => .bl (g i j)) := by
  intro pins s σ H x y v u Q I rx ry h
  obtain ⟨i, j, rfl, rfl, q⟩ := h
  obtain ⟨t, rfl⟩ := rx
  obtain ⟨t', rfl⟩ := ry
  exact rule i j t t' s _ _ ⟨.bl (g i j), H, I, rfl, q⟩

def CDiv (i j : Int) : Prop := 0 < j ∧ j < 1073741824
def CPow (i j : Int) : Prop := 0 ≤ j ∧ j ≤ 1000000 ∧ i.natAbs < 2 ^ 64
def CMul (i j : Int) : Prop := (-(2 ^ 64) < i ∧ i < 2 ^ 64) ∨ (-(2 ^ 64) < j ∧ j < 2 ^ 64)
theorem CMul.ok {i j : Int} (h : CMul i j) : IntMulOk i j := by
  rcases h with ⟨h1, h2⟩ | ⟨h1, h2⟩
  · exact .of_left (intBits_le_64 h1 h2)
  · exact .of_right (intBits_le_64 h1 h2)
theorem op_add : OpR X (binaryOp .Add) (rI0 fun i j => .int (i + j)) := opI0 fun _ _ _ _ _ _ _ q => add_int q
theorem op_sub : OpR X (binaryOp .Sub) (rI0 fun i j => .int (i - j)) := opI0 fun _ _ _ _ _ _ _ q => sub_int q
theorem op_mul : OpR X (binaryOp .Mult) (rI CMul fun i j => .int (i * j)) := opI fun _ _ _ _ _ _ _ hc q => mul_int q hc.ok
/-- // by a positive divisor -/
theorem op_fdiv : OpR X (binaryOp .FloorDiv) (rI CDiv fun i j => .int (i / j)) := opI fun i j _ _ _ _ _ hc q => by
  have h1 : (0 : Int) < j := hc.1
  have h2 : j < 1073741824 := hc.2
  exact floordiv_int (by omega) (by rw [Int.fdiv_eq_ediv_of_nonneg i (by omega)]; exact q) (.inl (PyProof.noPylong_small (by omega)))
/-- % by a positive divisor of any size -/
theorem op_mod : OpR X (binaryOp .Mod) (rI (fun _ j => 0 < j) fun i j => .int (i % j)) := opI fun i j _ _ _ _ _ hc q => by
  have h1 : (0 : Int) < j := hc
  exact mod_int' (by omega) (by rw [Int.fmod_eq_emod_of_nonneg i (by omega)]; exact q)
theorem op_pow : OpR X (binaryOp .Pow) (rI CPow fun i j => .int (i ^ j.toNat)) := opI fun _ _ _ _ _ _ _ hc q => pow_int_small hc.1 hc.2.1 hc.2.2 q
theorem unI {f : Value → Sem Value} {g : Int → Int}
    (rule : ∀ (i : Int) (t : Tok) (s : Shared) (Q : Value → Shared → Prop) (E : Value → Shared → Prop), Q (.int (g i) s.toks) { s with toks := s.toks + 1 } → wpAny (model X.prog X.w) X.A (f (.int i t)) Q E s) :
    UnR X f (rU fun i => .int (g i)) := by
  intro pins s σ H x v Q I rx h
  obtain ⟨i, rfl, q⟩ := h
  obtain ⟨t, rfl⟩ := rx
  exact rule i t s _ _ ⟨.int (g i), H, I.tok _, ⟨_, rfl⟩, q⟩
theorem un_neg : UnR X (unaryOp .USub) (rU fun i => .int (-i)) := unI fun _ _ _ _ _ q => neg_int q
end

/-- the scalars that == tells apart as data does -/
def scal : V → V → Bool
  | .non, .non => true | .non, .int _ => true | .int _, .non => true | .non, .bl _ => true | .bl _, .non => true | .non, .str _ => true | .str _, .non => true
  | .int _, .int _ => true | .bl _, .bl _ => true | .str _, .str _ => true | .byt _, .byt _ => true
  | .int _, .str _ => true | .str _, .int _ => true | .bl _, .str _ => true | .str _, .bl _ => true
  | _, _ => false
def rEq : R2 := fun x y H Q => scal x y = true ∧ Q (.bl (decide (x = y))) H
def rNe : R2 := fun x y H Q => scal x y = true ∧ Q (.bl (!decide (x = y))) H

theorem dec_int {i j : Int} : decide (V.int i = V.int j) = (i == j) := by
  rw [Bool.eq_iff_iff]
  simp
theorem dec_bl {i j : Bool} : decide (V.bl i = V.bl j) = (i == j) := by
  rw [Bool.eq_iff_iff]
  simp
theorem dec_str {i j : Str} : decide (V.str i = V.str j) = (i == j) := by
  rw [Bool.eq_iff_iff]
  simp
theorem dec_byt {i j : Array UInt8} : decide (V.byt i = V.byt j) = (i.toList == j.toList) := by
  rw [Bool.eq_iff_iff]
  cases i
  cases j
  simp

section
variable {X : Cx} {a b c : Expr} {ta tb tc : TE} {pos : Pos}
theorem fin_bl {pins : List (Addr × Obj)} {σ : St} {H : Hp} {s : Shared} {Q : VK} {k k' : Bool} (I : Inv X pins σ H s) (q : Q (.bl k) H) (e : k = k') : EP X pins σ Q (.bool k') s := by
  subst e
  exact ⟨.bl k, H, I, rfl, q⟩
theorem op_eq : OpR X (compareOp .Eq) rEq := by
  intro pins s σ H x y v u Q I rx ry h
  obtain ⟨hs, q⟩ := h
  cases x with
  | non =>
    cases rx
    cases y with
    | non => cases ry; exact PySem.EqNone.eq_none_none (fin_bl I q (by simp))
    | bl j => cases ry; exact PySem.EqNone.eq_none_bool (fin_bl I q (by simp))
    | int j => obtain ⟨t', rfl⟩ := ry; exact PySem.EqNone.eq_none_int (fin_bl I q (by simp))
    | str j => obtain ⟨t', rfl⟩ := ry; exact PySem.EqNone.eq_none_str (fin_bl I q (by simp))
    | _ => exact absurd (show false = true from hs) Bool.false_ne_true
  | bl i =>
    cases rx
    cases y with
    | non => cases ry; exact PySem.EqNone.eq_bool_none (fin_bl I q (by simp))
    | bl j => cases ry; exact eq_bool (fin_bl I q dec_bl)
    | str j => obtain ⟨t', rfl⟩ := ry; exact PySem.EqMixed.eq_bool_str (fin_bl I q (by simp))
    | _ => exact absurd (show false = true from hs) Bool.false_ne_true
  | int i =>
    obtain ⟨t, rfl⟩ := rx
    cases y with
    | non => cases ry; exact PySem.EqNone.eq_int_none (fin_bl I q (by simp))
    | int j => obtain ⟨t', rfl⟩ := ry; exact eq_int (fin_bl I q dec_int)
    | str j => obtain ⟨t', rfl⟩ := ry; exact PySem.EqMixed.eq_int_str (fin_bl I q (by simp))
    | _ => exact absurd (show false = true from hs) Bool.false_ne_true
  | str i =>
    obtain ⟨t, rfl⟩ := rx
    cases y with
    | non => cases ry; exact PySem.EqNone.eq_str_none (fin_bl I q (by simp))
    | bl j => cases ry; exact PySem.EqMixed.eq_str_bool (fin_bl I q (by simp))
    | int j => obtain ⟨t', rfl⟩ := ry; exact PySem.EqMixed.eq_str_int (fin_bl I q (by simp))
    | str j => obtain ⟨t', rfl⟩ := ry; exact eq_str (fin_bl I q dec_str)
    | _ => exact absurd (show false = true from hs) Bool.false_ne_true
  | byt i =>
    obtain ⟨t, rfl⟩ := rx
    cases y with
    | byt j => obtain ⟨t', rfl⟩ := ry; exact PySem.W.eq_bytes (fin_bl I q dec_byt)
    | _ => exact absurd (show false = true from hs) Bool.false_ne_true
  | _ => cases y <;> exact absurd (show false = true from hs) Bool.false_ne_true
theorem op_ne : OpR X (compareOp .NotEq) rNe := by
  intro pins s σ H x y v u Q I rx ry h
  obtain ⟨hs, q⟩ := h
  cases x with
  | non =>
    cases rx
    cases y with
    | non => cases ry; exact PySem.EqNone.ne_none_none (fin_bl I q (by simp))
    | bl j => cases ry; exact PySem.EqNone.ne_none_bool (fin_bl I q (by simp))
    | int j => obtain ⟨t', rfl⟩ := ry; exact PySem.EqNone.ne_none_int (fin_bl I q (by simp))
    | str j => obtain ⟨t', rfl⟩ := ry; exact PySem.EqNone.ne_none_str (fin_bl I q (by simp))
    | _ => exact absurd (show false = true from hs) Bool.false_ne_true
  | bl i =>
    cases rx
    cases y with
    | non => cases ry; exact PySem.EqNone.ne_bool_none (fin_bl I q (by simp))
    | bl j => cases ry; exact ne_bool (fin_bl I q (congrArg not dec_bl))
    | str j => obtain ⟨t', rfl⟩ := ry; exact PySem.EqMixed.ne_bool_str (fin_bl I q (by simp))
    | _ => exact absurd (show false = true from hs) Bool.false_ne_true
  | int i =>
    obtain ⟨t, rfl⟩ := rx
    cases y with
    | non => cases ry; exact PySem.EqNone.ne_int_none (fin_bl I q (by simp))
    | int j => obtain ⟨t', rfl⟩ := ry; exact ne_int (fin_bl I q (congrArg not dec_int))
    | str j => obtain ⟨t', rfl⟩ := ry; exact PySem.EqMixed.ne_int_str (fin_bl I q (by simp))
    | _ => exact absurd (show false = true from hs) Bool.false_ne_true
  | str i =>
    obtain ⟨t, rfl⟩ := rx
    cases y with
    | non => cases ry; exact PySem.EqNone.ne_str_none (fin_bl I q (by simp))
    | bl j => cases ry; exact PySem.EqMixed.ne_str_bool (fin_bl I q (by simp))
    | int j => obtain ⟨t', rfl⟩ := ry; exact PySem.EqMixed.ne_str_int (fin_bl I q (by simp))
    | str j => obtain ⟨t', rfl⟩ := ry; exact ne_str (fin_bl I q (congrArg not dec_str))
    | _ => exact absurd (show false = true from hs) Bool.false_ne_true
  | byt i =>
    obtain ⟨t, rfl⟩ := rx
    cases y with
    | byt j => obtain ⟨t', rfl⟩ := ry; exact PySem.W.ne_bytes (fin_bl I q (congrArg not dec_byt))
    | _ => exact absurd (show false = true from hs) Bool.false_ne_true
  | _ => cases y <;> exact absurd (show false = true from hs) Bool.false_ne_true

theorem op_lt : OpR X (compareOp .Lt) (rI0 fun i j => .bl (decide (i < j))) := opB0 fun _ _ _ _ _ _ _ q => lt_int q
theorem op_le : OpR X (compareOp .LtE) (rI0 fun i j => .bl (decide (i ≤ j))) := opB0 fun _ _ _ _ _ _ _ q => le_int q
theorem op_gt : OpR X (compareOp .Gt) (rI0 fun i j => .bl (decide (j < i))) := opB0 fun _ _ _ _ _ _ _ q => gt_int q
theorem op_ge : OpR X (compareOp .GtE) (rI0 fun i j => .bl (decide (j ≤ i))) := opB0 fun _ _ _ _ _ _ _ q => ge_int q
/-- two rules for one operation: by cases -/
theorem OpR.or {f : Value → Value → Sem Value} {r r' : R2} (h : OpR X f r) (h' : OpR X f r') : OpR X f (fun x y H Q => r x y H Q ∨ r' x y H Q) := by
  intro pins s σ H x y v u Q I rx ry q
  rcases q with q | q
  · exact h pins s σ H x y v u Q I rx ry q
  · exact h' pins s σ H x y v u Q I rx ry q

theorem nomark (b : Expr) {op : CmpOp} (h : op ≠ .In := by decide) (h2 : op ≠ .NotIn := by decide) : behindInMarks op b = false := by
  have e1 : (op == CmpOp.In) = false := by cases op <;> first | rfl | exact absurd rfl h
  have e2 : (op == CmpOp.NotIn) = false := by cases op <;> first | rfl | exact absurd rfl h2
  cases b <;> simp [behindInMarks, e1, e2]
/-- a comparison as a value; hm: nomark b, or (for in, not in) by with_unfolding_all rfl -/
theorem pe_cmpR {op : CmpOp} {r : R2} (ho : OpR X (compareOp op) r) (ha : PE X a ta) (hb : PE X b tb) (hm : behindInMarks op b = false) : PE X (.Compare a [op] [b] pos) (tOp r ta tb) := by
  intro pins s σ H Q I h
  exact wpAny_Compare1 (binT ha hb I h fun v u s2 x y H2 I2 rx ry q => ho pins s2 σ H2 x y v u Q I2 rx ry q) hm
/-- a reading of a value as a test -/
def tTest (t : TE) : TT := fun σ H Q => t σ H fun x H' => ∃ k, x = .bl k ∧ Q k H'
theorem pt_cmpR {op : CmpOp} {r : R2} (ho : OpR X (compareOp op) r) (ha : PE X a ta) (hb : PE X b tb) (hm : behindInMarks op b = false) : PT X (.Compare a [op] [b] pos) (tTest (tOp r ta tb)) := by
  intro pins s σ H Q I h
  refine wpAny_isTrue_Compare1 (thn (ha pins s σ H _ I h) fun v s1 ⟨x, H1, I1, r1, q1⟩ => thn (hb pins s1 σ H1 _ I1 q1) fun u s2 ⟨y, H2, I2, r2, q2⟩ =>
    thn (ho pins s2 σ H2 x y v u _ I2 r1 r2 q2) fun c s3 ⟨z, H3, I3, r3, k, e, q3⟩ => ?_) hm
  subst e
  cases r3
  exact wpAny_truthy_bool ⟨H3, I3, q3⟩
/-- a value's truth by the abstract heap -/
def TruV (K : PySem.W.Frag) (x : V) (H : Hp) (k : Bool) : Prop :=
  match x with
  | .non => k = false
  | .bl b => k = b
  | .int i => k = (i != 0)
  | .str y => y.length ≤ sizeLine ∧ k = ((y.length : Int) != 0)
  | .byt y => y.size ≤ sizeLine ∧ k = ((y.size : Int) != 0)
  | .ref p => (∃ xs, SqL K H p xs ∧ k = !xs.isEmpty) ∨ (∃ xs, SqT K H p xs ∧ k = !xs.isEmpty) ∨ ∃ kvs, H p = some (.dK kvs) ∧ k = !kvs.isEmpty
  | _ => False
theorem isEmpty_kv {κ : Type} {kvs : List (κ × V)} {vs : List (κ × Value)} (r : KV kvs vs) : (!vs.isEmpty) = !kvs.isEmpty := by
  cases r <;> rfl
theorem isEmpty_of {xs : List V} {its : List Value} (r : Vals xs its) : (!its.toArray.isEmpty) = !xs.isEmpty := by
  cases r <;> simp
theorem line63 : (sizeLine : Nat) < 2 ^ 63 := by rw [sizeLine_eq]; decide
theorem tru_ok : TruR X (fun x H Q => ∃ k, TruV X.K x H k ∧ Q k H) := by
  intro pins s σ H x v Q I rx h
  obtain ⟨k, e, q⟩ := h
  have hl := line63
  have hs : sizeLine = 16777216 := sizeLine_eq
  cases x with
  | non =>
    cases rx
    have e' : k = false := e
    subst e'
    exact truthy_none ⟨H, I, q⟩
  | bl b =>
    cases rx
    have e' : k = b := e
    subst e'
    exact wpAny_truthy_bool ⟨H, I, q⟩
  | int i =>
    obtain ⟨t, rfl⟩ := rx
    have e' : k = (i != 0) := e
    subst e'
    exact PySem.P.truthy_int ⟨H, I, q⟩
  | str y =>
    obtain ⟨t, rfl⟩ := rx
    obtain ⟨hy, e'⟩ : y.length ≤ sizeLine ∧ k = ((y.length : Int) != 0) := e
    subst e'
    exact PySem.P.truthy_str (by omega) ⟨H, I.tok _, q⟩
  | byt y =>
    obtain ⟨t, rfl⟩ := rx
    obtain ⟨hy, e'⟩ : y.size ≤ sizeLine ∧ k = ((y.size : Int) != 0) := e
    subst e'
    exact PySem.W.truthy_bytes (by omega) ⟨H, I.tok _, q⟩
  | ref p =>
    cases rx
    have e' : (∃ xs, SqL X.K H p xs ∧ k = !xs.isEmpty) ∨ (∃ xs, SqT X.K H p xs ∧ k = !xs.isEmpty) ∨ ∃ kvs, H p = some (.dK kvs) ∧ k = !kvs.isEmpty := e
    rcases e' with ⟨xs, hx, e'⟩ | ⟨xs, hx, e'⟩ | ⟨kvs, hx, e'⟩
    · subst e'
      obtain ⟨its, r, pl, hz⟩ := I.list hx
      have hlen := r.length
      exact wpAny_truthy_list pl.isList (by simp only [List.size_toArray]; omega) ⟨H, I.tok _, by rw [isEmpty_of r]; exact q⟩
    · subst e'
      obtain ⟨its, r, pl, hz⟩ := I.tuple hx
      have hlen := r.length
      exact truthy_tuple pl (by simp only [List.size_toArray]; omega) ⟨H, I.tok _, by rw [isEmpty_of r]; exact q⟩
    · subst e'
      obtain ⟨hz, hS, vs, r, m⟩ : kvs.length ≤ sizeLine ∧ (p == sysModules) = false ∧ ∃ vs, KV kvs vs ∧ s.heap.DictOf (mixKind X.prog X.w) p vs := I.hok p _ hx
      have hlen : kvs.length = vs.length := Paired.length r
      exact wpAny_truthy_dict hS m (by omega) ⟨H, I.tok _, by rw [isEmpty_kv r]; exact q⟩
  | _ => exact (show False from e).elim
/-- any expression whose test is its value's truth (a name, a call, a subscript, a field ..: he by fun _ => rfl) -/
theorem pt_truth (ha : PE X a ta) (he : ∀ whole, isTrue a X.env whole = (do let v ← whole; standAt a.pos; holding [v] (truthy v))) :
    PT X a (fun σ H Q => ta σ H fun x H' => ∃ k, TruV X.K x H' k ∧ Q k H') := by
  intro pins s σ H Q I h
  exact isTrue_plain (thn (ha pins s σ H _ I h) fun v s1 ⟨x, H1, I1, r1, q1⟩ => tru_ok pins s1 σ H1 x v Q I1 r1 q1) (he _)

/-! ### scalar builtins, by CallR -/
theorem vals1 {x : V} {us : List Value} (r : Vals [x] us) : ∃ u, us = [u] ∧ RelV x u := by
  cases r with
  | cons r1 r2 => cases r2; exact ⟨_, rfl, r1⟩
theorem vals2 {x y : V} {us : List Value} (r : Vals [x, y] us) : ∃ u w', us = [u, w'] ∧ RelV x u ∧ RelV y w' := by
  cases r with
  | cons r1 r2 =>
    cases r2 with
    | cons r3 r4 => cases r4; exact ⟨_, _, rfl, r1, r3⟩
theorem call_min2 (hc : X.calm = true) : CallR X (.builtin "min") (fun xs H Q => ∃ i j, xs = [.int i, .int j] ∧ Q (.int (if j < i then j else i)) H) := by
  intro pins s σ H xs us Q I r h
  obtain ⟨i, j, rfl, q⟩ := h
  obtain ⟨u, w', rfl, ⟨t, rfl⟩, ⟨t', rfl⟩⟩ := vals2 r
  refine min_two_ints (I.ok.hd hc) fun h' tk k => ⟨_, H, I.kept k, ?_, q⟩
  by_cases hj : j < i
  · rw [if_pos hj, if_pos hj]; exact ⟨_, rfl⟩
  · rw [if_neg hj, if_neg hj]; exact ⟨_, rfl⟩
theorem call_int1 : CallR X (.type "int") (fun xs H Q => (∃ i, xs = [.int i] ∧ Q (.int i) H) ∨ ∃ k, xs = [.bl k] ∧ Q (.int (if k then 1 else 0)) H) := by
  intro pins s σ H xs us Q I r h
  rcases h with ⟨i, rfl, q⟩ | ⟨k, rfl, q⟩
  · obtain ⟨u, rfl, t, rfl⟩ := vals1 r
    exact call_int_int ⟨.int i, H, I, ⟨_, rfl⟩, q⟩
  · obtain ⟨u, rfl, r1⟩ := vals1 r
    cases r1
    exact call_int_bool ⟨.int (if k then 1 else 0), H, I.tok _, ⟨_, rfl⟩, q⟩
end
end L2

namespace L2
open PySem PySem.Spec PyProof.Rows

/-! ### an instance, its attributes a map -/
structure ObjM (h : Heap) (x dx C : Addr) (mA : Str → Option Value) : Prop where
  obj : h.get? x = some (PySem.W.instObj C dx)
  ns : h.Ns1 dx mA
  ne : dx ≠ x

theorem lookIn_ns {h : Heap} {dx : Addr} {mA : Str → Option Value} (n : h.Ns1 dx mA) : ∃ od, h.get? dx = some od ∧ ∀ name, PySem.W.lookIn name od = some (mA name) := by
  obtain ⟨o, es, ep, ho, hd, hk, _, hm⟩ := n
  refine ⟨o, ho, fun name => ?_⟩
  have e := hm name
  unfold nsFind findBy at e
  rw [← Array.find?_toList] at e
  unfold PySem.W.lookIn
  rw [hd]
  dsimp only
  split
  · rename_i y q
    rw [q] at e
    exact congrArg some e
  · rename_i q
    rw [q] at e
    have a : es.toList.any (·.refKey) = false := by
      rw [List.any_eq_false]
      intro y hy
      obtain ⟨z, t, hkey⟩ := hk y (Array.mem_toList_iff.mp hy)
      simp [DictEntry.refKey, hkey]
    have a' : ¬ es.toList.any (·.refKey) = true := by rw [a]; exact Bool.false_ne_true
    rw [if_neg a']
    exact congrArg some e

theorem ObjM.look {h : Heap} {x dx C : Addr} {mA : Str → Option Value} (I : ObjM h x dx C mA) : ∃ od, PySem.W.InstAt h x (PySem.W.instObj C dx) C (some od) ∧ ∀ name, PySem.W.lookIn name od = some (mA name) :=
  let ⟨od, ho, hl⟩ := lookIn_ns I.ns
  ⟨od, ⟨I.obj, rfl, rfl, ho⟩, hl⟩

section
variable {prog : Program} {w : World} {A : Around} {E : Value → Shared → Prop} {s : Shared} {K : PySem.W.Frag} {x dx C f : Addr} {mA : Str → Option Value} {name : Str} {v : Value}

theorem get_map {expr : Bool} {Q : Value → Shared → Prop} (X : K.In s.heap) (I : ObjM s.heap x dx C mA) (hg : PySem.W.plainGet K C name = true) (hh : PySem.W.hasDictIn K C = true)
    (ha : PySem.W.findIn K (.ref C) name = some none) (hv : mA name = some v) (hv' : PySem.W.handedIn v = true) (h : Q v { s with toks := s.toks + 1 }) :
    wpAny (model prog w) A (getAttr (.ref x) name expr) Q E s := by
  obtain ⟨od, J, hl⟩ := I.look
  exact PySem.W.get_value X J (PySem.W.plainGet_of hg).1 (PySem.W.findObj_own hh ha rfl (by rw [hl, hv])) hv' h

theorem get_meth {pl : Sem Bool} {Q : Value × List Value → Shared → Prop} (X : K.In s.heap) (I : ObjM s.heap x dx C mA) (hg : PySem.W.plainGet K C name = true)
    (hf : PySem.W.findIn K (.ref C) name = some (some (.ref f))) (ht : PySem.W.isFn K (.ref f) = true) (hv : mA name = none) (h : Q (.ref f, [.ref x]) s) :
    wpAny (model prog w) A (getMethod (.ref x) name pl) Q E s := by
  obtain ⟨od, J, hl⟩ := I.look
  exact PySem.W.method_fn X J (PySem.W.plainGet_of hg).1 (PySem.W.plainGet_of hg).2 hf (beq_iff_eq.mp ht) (by show (PySem.W.lookIn name od).map (·.isSome) = some false; rw [hl, hv]; rfl) h

theorem set_map {ns : List Str} {Q : Unit → Shared → Prop} (X : K.In s.heap) (I : ObjM s.heap x dx C mA)
    (hs : PySem.W.findIn K (.ref C) "__setattr__" = some (some (.builtin "object.__setattr__"))) (hp : PySem.W.plainOver K C = true) (ht : PySem.W.takerIn K C name = some none) (hh : PySem.W.hasDictIn K C = true)
    (hw : PySem.Within mA ns) (hsz : ns.length ≤ sizeLine)
    (h : ∀ h', ObjM h' x dx C (fun y => if y = name then some v else mA y) → Heap.SameBut dx s.heap h' → Q () { s with heap := h', toks := s.toks + 2 }) :
    wpAny (model prog w) A (setAttr (.ref x) name v) Q E s := by
  obtain ⟨od, J, hl⟩ := I.look
  refine PySem.W.set_plain X J hs (PySem.W.osa_open (s := { s with toks := s.toks + 1 }) (r := none) X J hp ht fun b => ?_)
  obtain ⟨cd, hc, hd'⟩ := PySem.W.any_some hh
  have hx : s.heap.get? x = some ⟨.ref C, some dx, .plain, #[]⟩ := I.obj
  refine wpAny_bind (wpAny_pure (wpAny_bind (wpAny_bind (wpAny_loadPart hx (wpAny_bind (PySem.W.Looks.here (s := { s with toks := s.toks + 1 }) (PySem.W.looks_clsIn X hc) ?_))))))
  rw [hd']
  refine wpAny_pure (a := some dx) (wpAny_bind (wpAny_pure (wpAny_bind ?_)))
  refine wpAny_nsSet1 (s := { s with toks := s.toks + 1 }) I.ns fun h' hn2 hs2 => ?_
  obtain ⟨oD, esD, epD, hoD, hdD, hcD⟩ := hn2.count (PySem.Within.cons name v hw)
  refine wpAny_bind (wpAny_lookBehind hoD (by rw [hdD]; exact pastItsLine_dict (Nat.le_trans hcD (by rw [List.length_cons]; omega))) ?_)
  exact wpAny_pure (h _ ⟨(hs2.2 _ (Ne.symm I.ne)).trans I.obj, hn2, I.ne⟩ hs2)

/-- C(..): the dict at the heap's end, the instance behind it; then its __init__ -/
theorem make_map {R : Result → Shared → Prop} {vs : List Value} {kw : List (Str × Value)} (X : K.In s.heap) (hm : PySem.W.makesIn K C = true)
    (hi : PySem.W.findIn K (.ref C) "__init__" = some (some (.ref f))) (hf : PySem.W.typeIn K (.ref f) = some (.type "function"))
    (h : codeAny (model prog w) (A.under (.builtin "type.__call__" ⟨.ref C :: vs, kw⟩)) (.call (.ref f) ⟨.ref (s.heap.objs.size + 1) :: vs, kw⟩) (PySem.W.InitBack (s.heap.objs.size + 1) R)
      { s with heap := (s.heap.push PySem.W.emptyDict).push (PySem.W.instObj C s.heap.objs.size) }) :
    codeAny (model prog w) A (.call (.ref C) ⟨vs, kw⟩) R s := by
  obtain ⟨hh, g, d, t, os⟩ := s
  exact PySem.W.make_core (PySem.W.makes_of X hm) (PySem.W.looks_findIn X hi) (fun self => PySem.W.bind_fn X self hf) (.inl rfl) h
end

/-! ### the attributes as a list of pairs -/
def putF (f : Str) (v : V) : List (Str × V) → List (Str × V)
  | [] => [(f, v)]
  | (g, x) :: r => if g = f then (g, v) :: r else (g, x) :: putF f v r
theorem lookup_putF (f g : Str) (v : V) : ∀ fs : List (Str × V), (putF f v fs).lookup g = if g = f then some v else fs.lookup g
  | [] => by
    show List.lookup g [(f, v)] = _
    by_cases h : g = f
    · have hb : (g == f) = true := beq_iff_eq.mpr h
      simp only [List.lookup, hb, if_pos h]
    · have hb : (g == f) = false := beq_eq_false_iff_ne.mpr h
      simp only [List.lookup, hb, if_neg h]
  | (k, x) :: r => by
    have ih := lookup_putF f g v r
    rw [show putF f v ((k, x) :: r) = (if k = f then (k, v) :: r else (k, x) :: putF f v r) from rfl]
    by_cases hk : k = f
    · rw [if_pos hk]
      by_cases h : g = k
      · have hb : (g == k) = true := beq_iff_eq.mpr h
        simp only [List.lookup, hb, if_pos (h.trans hk)]
      · have hb : (g == k) = false := beq_eq_false_iff_ne.mpr h
        simp only [List.lookup, hb, if_neg (fun e : g = f => h (e.trans hk.symm))]
    · rw [if_neg hk]
      by_cases h : g = k
      · have hb : (g == k) = true := beq_iff_eq.mpr h
        simp only [List.lookup, hb, if_neg (fun e : g = f => hk (h.symm.trans e))]
      · have hb : (g == k) = false := beq_eq_false_iff_ne.mpr h
        simp only [List.lookup, hb]
        exact ih
theorem keys_putF (f : Str) (v : V) : ∀ fs : List (Str × V), f ∈ (putF f v fs).map (·.1) ∧ ∀ g, g ∈ fs.map (·.1) → g ∈ (putF f v fs).map (·.1)
  | [] => ⟨by simp [putF], fun g h => by simp at h⟩
  | (k, x) :: r => by
    obtain ⟨i1, i2⟩ := keys_putF f v r
    rw [show putF f v ((k, x) :: r) = (if k = f then (k, v) :: r else (k, x) :: putF f v r) from rfl]
    by_cases hk : k = f
    · rw [if_pos hk]
      subst hk
      exact ⟨by simp, fun g h => by simpa using h⟩
    · rw [if_neg hk]
      refine ⟨?_, fun g h => ?_⟩
      · rw [List.map_cons]
        exact List.mem_cons_of_mem _ i1
      · rw [List.map_cons] at h ⊢
        rcases List.mem_cons.mp h with e | e
        · exact List.mem_cons.mpr (.inl e)
        · exact List.mem_cons_of_mem _ (i2 g e)
theorem length_putF (f : Str) (v : V) : ∀ fs : List (Str × V), (putF f v fs).length ≤ fs.length + 1
  | [] => by simp [putF]
  | (k, x) :: r => by
    have ih := length_putF f v r
    rw [show putF f v ((k, x) :: r) = (if k = f then (k, v) :: r else (k, x) :: putF f v r) from rfl]
    by_cases hk : k = f
    · rw [if_pos hk, List.length_cons, List.length_cons]; omega
    · rw [if_neg hk, List.length_cons, List.length_cons]; omega

theorem RelO.some_of {v : V} {o : Option Value} (r : RelO (some v) o) : ∃ u, o = some u ∧ RelV v u := by
  cases o with
  | none => exact (show False from r).elim
  | some u => exact ⟨u, rfl, r⟩
theorem RelO.none_of {o : Option Value} (r : RelO none o) : o = none := by
  cases o with
  | none => rfl
  | some u => exact (show False from r).elim
theorem handed_of {v : V} {u : Value} (r : RelV v u) : PySem.W.handedIn u = true := by
  cases v with
  | non => cases (show u = Value.none from r); rfl
  | bl b => cases (show u = Value.bool b from r); rfl
  | int i => obtain ⟨t, e⟩ := (show ∃ t, u = Value.int i t from r); cases e; rfl
  | str x => obtain ⟨t, e⟩ := (show ∃ t, u = Value.str x t from r); cases e; rfl
  | byt b => obtain ⟨t, e⟩ := (show ∃ t, u = Value.bytes b t from r); cases e; rfl
  | flt b => obtain ⟨t, e⟩ := (show ∃ t, u = Value.float b t from r); cases e; rfl
  | ref a => cases (show u = Value.ref a from r); rfl
  | ty n => cases (show u = Value.type n from r); rfl

section
variable {P : Program} {w : World} {H H' : Hp} {h h' : Heap} {a C dx : Addr} {fs fs' : List (Str × V)}
theorem ins_get (hok : HOk P w H h) (e : H a = some (.ins C dx fs)) : ∃ mA, ObjM h a dx C mA ∧ (∀ f, RelO (fs.lookup f) (mA f)) ∧ PySem.Within mA (fs.map (·.1)) ∧ fs.length ≤ 1000 ∧ H dx = some (.own a) := by
  obtain ⟨d, z, ne, ob, mA, n, r, q⟩ := (show ObjOk P w H h a (.ins C dx fs) from hok a _ e)
  exact ⟨mA, ⟨ob, n, ne⟩, r, q, z, d⟩
end

/-! ### what of the text a class must have -/
structure Cls (K : PySem.W.Frag) (C : Addr) : Prop where
  pg : PySem.W.plainGet K C Str.empty = true
  hd : PySem.W.hasDictIn K C = true
  po : PySem.W.plainOver K C = true
  sa : PySem.W.findIn K (.ref C) "__setattr__" = some (some (.builtin "object.__setattr__"))
theorem Cls.get {K : PySem.W.Frag} {C : Addr} (c : Cls K C) (f : Str) : PySem.W.plainGet K C f = true := c.pg
/-- no class of it has the name -/
def NoAttr (K : PySem.W.Frag) (C : Addr) (f : Str) : Prop := PySem.W.findIn K (.ref C) f = some none
theorem NoAttr.taker {K : PySem.W.Frag} {C : Addr} {f : Str} (n : NoAttr K C f) : PySem.W.takerIn K C f = some none := by
  unfold PySem.W.takerIn
  rw [show PySem.W.findIn K (.ref C) f = some none from n]
  rfl
/-- a method: a plain def of the class or of one above it -/
structure Meth (K : PySem.W.Frag) (C : Addr) (m : Str) (f : Addr) : Prop where
  at_ : PySem.W.findIn K (.ref C) m = some (some (.ref f))
  fn : PySem.W.isFn K (.ref f) = true
  kp : PySem.W.keepIn K (.ref f) = true

section
variable {X : Cx} {pins : List (Addr × Obj)} {σ : St} {H : Hp} {s : Shared} {a C dx : Addr} {fs : List (Str × V)} {f : Str} {v : V} {A : Around} {E : Value → Shared → Prop}

theorem getattr_ok {b : Bool} {Q : Value → Shared → Prop} (I : Inv X pins σ H s) (e : H a = some (.ins C dx fs)) (c : Cls X.K C) (n : NoAttr X.K C f) (l : fs.lookup f = some v)
    (h : ∀ u s', Inv X pins σ H s' → RelV v u → Q u s') : wpAny (model X.prog X.w) A (getAttr (.ref a) f b) Q E s := by
  obtain ⟨mA, O, r, _, _, _⟩ := ins_get I.hok e
  obtain ⟨u, hu, ru⟩ := RelO.some_of (v := v) (o := mA f) (by rw [← l]; exact r f)
  exact get_map I.kIn O (c.get f) c.hd n hu (handed_of ru) (h u _ (I.tok _) ru)

theorem getmeth_ok {m : Str} {g : Addr} {pl : Sem Bool} {Q : Value × List Value → Shared → Prop} (I : Inv X pins σ H s) (e : H a = some (.ins C dx fs)) (c : Cls X.K C) (k : Meth X.K C m g) (l : fs.lookup m = none)
    (h : Q (.ref g, [.ref a]) s) : wpAny (model X.prog X.w) A (getMethod (.ref a) m pl) Q E s := by
  obtain ⟨mA, O, r, _, _, _⟩ := ins_get I.hok e
  have hn : mA m = none := RelO.none_of (by rw [← l]; exact r m)
  exact get_meth I.kIn O (c.get m) k.at_ k.fn hn h

theorem setattr_ok {y : V} {u : Value} {Q : Unit → Shared → Prop} (I : Inv X pins σ H s) (e : H a = some (.ins C dx fs)) (c : Cls X.K C) (n : NoAttr X.K C f) (hl : fs.length < 1000) (ry : RelV y u)
    (h : ∀ s', Inv X pins σ (upd H a (.ins C dx (putF f y fs))) s' → Q () s') : wpAny (model X.prog X.w) A (setAttr (.ref a) f u) Q E s := by
  obtain ⟨mA, O, r, wi, _, ho⟩ := ins_get I.hok e
  have hz : (fs.map (·.1)).length ≤ sizeLine := by rw [List.length_map, sizeLine_eq]; omega
  refine set_map I.kIn O c.sa c.po n.taker c.hd wi hz fun h' O' sb => h _ ?_
  have hd : ∃ o, h'.get? dx = some o := let ⟨o, _, _, e', _⟩ := O'.ns; ⟨o, e'⟩
  refine I.write (x := a) (e := dx) (by rw [e]; exact True.intro) (.inr ho) (fun b q hb z => (sb.2 b hb).trans z) hd ?_
  refine ⟨by rw [upd_ne O.ne]; exact ho, ?_, O.ne, O'.obj, _, O'.ns, fun g => ?_, fun g hg => ?_⟩
  · have := length_putF f y fs; omega
  · show RelO ((putF f y fs).lookup g) (if g = f then some u else mA g)
    rw [lookup_putF]
    by_cases q : g = f
    · rw [if_pos q, if_pos q]; exact ry
    · rw [if_neg q, if_neg q]; exact r g
  · by_cases q : g = f
    · rw [q]; exact (keys_putF f y fs).1
    · refine (keys_putF f y fs).2 g (wi g fun z => hg ?_)
      show (if g = f then some u else mA g) = none
      rw [if_neg q]; exact z

/-- a new instance, tracked, without attributes -/
theorem Inv.made (I : Inv X pins σ H s) : Inv X pins σ (upd (upd H s.heap.objs.size (.own (s.heap.objs.size + 1))) (s.heap.objs.size + 1) (.ins C s.heap.objs.size []))
    { s with heap := (s.heap.push PySem.W.emptyDict).push (PySem.W.instObj C s.heap.objs.size) } := by
  have e1 : (s.heap.push PySem.W.emptyDict).get? s.heap.objs.size = some PySem.W.emptyDict := Heap.get?_push_size s.heap rfl
  have e2 : ((s.heap.push PySem.W.emptyDict).push (PySem.W.instObj C s.heap.objs.size)).get? (s.heap.objs.size + 1) = some (PySem.W.instObj C s.heap.objs.size) := by
    have := Heap.get?_push_size (s.heap.push PySem.W.emptyDict) (o := PySem.W.instObj C s.heap.objs.size) rfl
    rwa [Heap.size_push] at this
  have e3 : (s.heap.push PySem.W.emptyDict).Ns s.heap.objs.size (fun _ => none) := ⟨PySem.W.emptyDict, #[], _, e1, rfl, (fun e he => absurd he (by simp)), fun _ => rfl⟩
  have I1 := I.laid (a := s.heap.objs.size) (o := .own (s.heap.objs.size + 1)) (h' := s.heap.push PySem.W.emptyDict) (t' := s.toks) (fun b u q => Heap.get?_push_of_some _ q) (Nat.le_refl _) ⟨_, e1⟩
  refine I1.laid (a := s.heap.objs.size + 1) (o := .ins C s.heap.objs.size []) (t' := s.toks) (fun b u q => Heap.get?_push_of_some _ q) (Nat.le_of_eq (Heap.size_push _ _)) ?_
  have ne : s.heap.objs.size ≠ s.heap.objs.size + 1 := Nat.ne_of_lt (Nat.lt_succ_self _)
  refine ⟨by rw [upd_ne ne, upd_same], Nat.zero_le _, ne, e2, fun _ => none, (Heap.Ns1.of_empty e3).at fun o q => Heap.get?_push_of_some _ q, fun _ => True.intro, fun y hy => absurd rfl hy⟩

/-- e.f where nothing but the object is asked: through attributeBase (super) and the last hold -/
theorem attr_of {prog : Program} {w : World} {env : Env} {e : Expr} {f : Str} {pos : Pos} {s : Shared} {Q : Value → Shared → Prop} (hb : attributeBase e f env (eval e env) = eval e env)
    (h : wpAny (model prog w) A (eval e env) (fun o s₁ => wpAny (model prog w) A (getAttr o f true) Q E s₁) E s) : wpAny (model prog w) A (eval (.Attribute e f pos) env) Q E s :=
  Attribute_any_ h (by rw [arm_eval_Attribute, hb])
end

/-- e.f, an attribute of the instance -/
def tFld (K : PySem.W.Frag) (ta : TE) (f : Str) : TE := fun σ H Q => ta σ H fun x H1 => ∃ a C dx fs v, x = .ref a ∧ H1 a = some (.ins C dx fs) ∧ Cls K C ∧ NoAttr K C f ∧ fs.lookup f = some v ∧ Q v H1
/-- e.f = value -/
def sFld (K : PySem.W.Frag) (ta tv : TE) (f : Str) : TS := fun D σ H => tv σ H fun y H1 => ta σ H1 fun x H2 => ∃ a C dx fs, x = .ref a ∧ H2 a = some (.ins C dx fs) ∧ Cls K C ∧ NoAttr K C f ∧ fs.length < 1000 ∧
  D.nx σ (upd H2 a (.ins C dx (putF f y fs)))
section
variable {X : Cx} {o e value : Expr} {f : Str} {pos pos' tpos : Pos} {ta tv : TE}
theorem pe_fld (he : PE X e ta) (hb : attributeBase e f X.env (eval e X.env) = eval e X.env) : PE X (.Attribute e f pos) (tFld X.K ta f) := by
  intro pins s σ H Q I h
  refine attr_of hb (thn (he pins s σ H _ I h) fun u s1 ⟨x, H1, I1, rx, a, C, dx, fs, v, ex, ea, c, n, l, q⟩ => ?_)
  subst ex
  obtain rfl : u = Value.ref a := rx
  exact getattr_ok I1 ea c n l fun u' s2 I2 ru => ⟨v, H1, I2, ru, q⟩
theorem ps_fld (ha : PE X o ta) (hv : PE X value tv) (hs : swapsWith value (some (.Attribute o f pos')) pos.line X.env = pure false) : PS X (.Assign [.Attribute o f pos'] value pos) (sFld X.K ta tv f) := by
  intro pins s σ H D I h
  refine plainObj_wpAny_Assign_Attribute (thn (hv pins s σ H _ I h) fun u s1 ⟨y, H1, I1, ry, q⟩ => thn (ha pins s1 σ H1 _ I1 q) fun ov s2 ⟨x, H2, I2, rx, a, C, dx, fs, ex, ea, c, n, l, q2⟩ => ?_) hs
  subst ex
  obtain rfl : ov = Value.ref a := rx
  exact setattr_ok I2 ea c n l ry fun s3 I3 => ⟨σ, _, I3, q2⟩
end

section
variable {X : Cx} {pins : List (Addr × Obj)} {σ : St} {H : Hp} {s : Shared} {A : Around} {E : Value → Shared → Prop} {Q : Value → Shared → Prop} {c : Value} {b : Bool}
end
end L2

namespace L2
open PySem PySem.Spec PyProof.Rows

/-! ### room -/
structure Room (k : Nat) (A : Around) : Prop where
  hd : A.handled = none
  dp : A.depth + 3 * k + 5 < recursionLimit
  un : A.units + 16 * k + 200 < cLine
theorem Room.mono {j k : Nat} {A : Around} (r : Room k A) (h : j ≤ k) : Room j A := ⟨r.hd, by have := r.dp; omega, by have := r.un; omega⟩
theorem Room.deeper {k : Nat} {A : Around} (r : Room (k + 1) A) (env : Env) : Room k (A.deeper env) :=
  ⟨r.hd, by have := r.dp; show A.depth + 1 + 3 * k + 5 < _; omega, by have := r.un; show A.units + 3 + 16 * k + 200 < _; omega⟩
theorem make_depth {A : Around} {C : Addr} {us : List Value} {kw : List (Str × Value)} : (A.under (.builtin "type.__call__" ⟨.ref C :: us, kw⟩)).depth = A.depth + 1 := by
  first | rfl | simp [Around.under, Code.weight, Code.isCreation, Code.isGuard, Code.isCaller, Code.frames, Code.isFrame, guardIds]
theorem make_units {A : Around} {C : Addr} {us : List Value} {kw : List (Str × Value)} : (A.under (.builtin "type.__call__" ⟨.ref C :: us, kw⟩)).units = A.units + 1 := by
  first | rfl | simp [Around.under, Code.cUnits, Code.frames, Code.isFrame]
theorem Room.make {k : Nat} {A : Around} (r : Room (k + 1) A) (C : Addr) (us : List Value) (kw : List (Str × Value)) : Room k (A.under (.builtin "type.__call__" ⟨.ref C :: us, kw⟩)) :=
  ⟨r.hd, by have := r.dp; rw [make_depth]; omega, by have := r.un; rw [make_units]; omega⟩
theorem Room.depth {k : Nat} {A : Around} (r : Room k A) : A.depth < recursionLimit := by have := r.dp; omega
theorem Room.units {k : Nat} {A : Around} (r : Room k A) : A.units + 64 < cLine := by have := r.un; omega
theorem Room.units0 {k : Nat} {A : Around} (r : Room k A) : A.units < cLine := by have := r.un; omega

/-! ### argument lists and displays -/
def tNil : TA := fun _ H Q => Q [] H
def tCons (ta : TE) (tr : TA) : TA := fun σ H Q => ta σ H fun x H1 => tr σ H1 fun xs H2 => Q (x :: xs) H2
section
variable {X : Cx} {e : Expr} {es : List Expr} {te : TE} {t : TA} {pos : Pos}
theorem pa_nil : PA X [] tNil := fun _ _ _ _ H Q I h => Calls.spliced_nil ⟨[], H, I, .nil, h⟩
theorem pa_cons (ha : PE X e te) (hr : PA X es t) (hs : starEach (e :: es) X.env = (false, eval e X.env) :: starEach es X.env := by rfl) : PA X (e :: es) (tCons te t) := by
  intro pos pins s σ H Q I h
  rw [hs]
  show wpAny _ _ (spliced ((false, eval e X.env) :: backTo pos (starEach es X.env))) _ _ s
  refine Calls.spliced_cons (thn (ha pins s σ H _ I h) fun u s1 ⟨x, H1, I1, r1, q1⟩ => ?_)
  exact thn (hr pos pins s1 σ H1 _ I1 q1) fun us s2 ⟨xs, H2, I2, r2, q2⟩ => ⟨x :: xs, H2, I2, .cons r1 r2, q2⟩

/-- a tuple, a list of written items -/
def tTup (t : TA) : TE := fun σ H Q => t σ H fun xs H1 => xs.length ≤ sizeLine ∧ ∀ p, H1 p = none → Q (.ref p) (upd H1 p (.tup xs))
def tLst (t : TA) : TE := fun σ H Q => t σ H fun xs H1 => xs.length ≤ sizeLine ∧ ∀ p, H1 p = none → Q (.ref p) (upd H1 p (.lst xs))
theorem pe_tup {x1} (h : PA X es t) : PE X (.Tuple es x1 pos) (tTup t) := by
  intro pins s σ H Q I hq
  refine wpAny_Tuple_spliced (thn (h pos pins s σ H _ I hq) fun us s1 ⟨xs, H1, I1, r, z, q⟩ => ⟨by rw [← r.length]; exact z, ?_⟩)
  have hf : H1 s1.heap.objs.size = none := I1.hok.fresh (Nat.le_refl _)
  refine ⟨.ref s1.heap.objs.size, upd H1 s1.heap.objs.size (.tup xs), I1.laid (t' := s1.toks) (fun b u e => Heap.get?_push_of_some _ e) (Nat.le_refl _) ?_, rfl, q _ hf⟩
  exact ⟨z, us, r, ⟨_, Heap.get?_push_size _ rfl, ⟨rfl, _, rfl⟩, rfl⟩⟩
theorem pe_lst (h : PA X es t) : PE X (.List es pos) (tLst t) := by
  intro pins s σ H Q I hq
  refine wpAny_List_spliced (thn (h pos pins s σ H _ I hq) fun us s1 ⟨xs, H1, I1, r, z, q⟩ => ⟨by rw [← r.length]; exact z, ?_⟩)
  have hf : H1 s1.heap.objs.size = none := I1.hok.fresh (Nat.le_refl _)
  refine ⟨.ref s1.heap.objs.size, upd H1 s1.heap.objs.size (.lst xs), I1.laid (t' := s1.toks) (fun b u e => Heap.get?_push_of_some _ e) (Nat.le_refl _) ?_, rfl, q _ hf⟩
  exact ⟨z, us, 0, r, Heap.get?_push_size _ rfl⟩
end

/-- a def's promise: the bound arguments in the parameters' order, the heap, the wanted end, the wanted exception -/
abbrev Sp := List V → Hp → VK → XK → Prop
/-- how an exception lies behind a call (file 08 gives it): the callers' frames, abstract heap and state ahead of the call, the wish, the exception, the state -/
abbrev CXT := List Env → Hp → Shared → XK → Value → Shared → Prop

/-- the state at a call -/
structure Env0 (P : Program) (w : World) (K : PySem.W.Frag) (mg : Str → Option Value) (base : Heap) (A : Around) (outer : List Env) (s : Shared) (H : Hp) : Prop where
  frames : A.frames = some outer
  mod : Mod K mg base
  bs : ∀ b o, base.get? b = some o → s.heap.get? b = some o ∧ H b = none
  bsz : base.objs.size ≤ s.heap.objs.size
  funs : s.heap.FunFrames base outer
  frf : ∀ b ∈ frs outer, H b = none
  hok : HOk P w H s.heap
  bare : AllBare s.gens
/-- a call's end -/
def CE (outer : List Env) (P : Program) (w : World) (H : Hp) (s : Shared) (Q : VK) (u : Value) (s' : Shared) : Prop :=
  ∃ v H', s'.os = s.os ∧ AllBare s'.gens ∧ Un (frs outer) [] H H' s.heap s'.heap ∧ HOk P w H' s'.heap ∧ RelV v u ∧ Q v H'
def CR (CX : CXT) (outer : List Env) (P : Program) (w : World) (H : Hp) (s : Shared) (Q : VK) (E : XK) (r : Result) (s' : Shared) : Prop :=
  match r with
  | .ok (.ret u) => CE outer P w H s Q u s'
  | .ok _ => False
  | .error e => CX outer H s E e s'
structure FnOk (P : Program) (w : World) (K : PySem.W.Frag) (mg : Str → Option Value) (base : Heap) (CX : CXT) (k : Nat) (f : Addr) (fd : FuncData) (ps : List Str) (sp : Sp) : Prop where
  len : ∀ vs H Q E, sp vs H Q E → vs.length = ps.length
  run : ∀ (A : Around) (outer : List Env) (s : Shared) (H : Hp) (args : Args) (us : List Value) (vs : List V) (Q : VK) (E : XK), Room k A → Env0 P w K mg base A outer s H → BindsTo s fd args (ps.zip us) → Vals vs us → sp vs H Q E →
    codeAny (model P w) A (.call (.ref f) args) (CR CX outer P w H s Q E) s
theorem FnOk.mono {P : Program} {w : World} {K : PySem.W.Frag} {mg : Str → Option Value} {base : Heap} {CX : CXT} {j k : Nat} {f : Addr} {fd : FuncData} {ps : List Str} {sp : Sp} (F : FnOk P w K mg base CX j f fd ps sp) (h : j ≤ k) :
    FnOk P w K mg base CX k f fd ps sp := ⟨F.len, fun A outer s H args us vs Q E hr => F.run A outer s H args us vs Q E (hr.mono h)⟩
/-- a weaker promise -/
theorem FnOk.imp {P : Program} {w : World} {K : PySem.W.Frag} {mg : Str → Option Value} {base : Heap} {CX : CXT} {k : Nat} {f : Addr} {fd : FuncData} {ps : List Str} {sp sp' : Sp} (F : FnOk P w K mg base CX k f fd ps sp)
    (h : ∀ vs H Q E, sp' vs H Q E → sp vs H Q E) : FnOk P w K mg base CX k f fd ps sp' :=
  ⟨fun vs H Q E q => F.len vs H Q E (h _ _ _ _ q), fun A outer s H args us vs Q E hr he hb hv hs => F.run A outer s H args us vs Q E hr he hb hv (h _ _ _ _ hs)⟩

theorem Env0.make {P : Program} {w : World} {K : PySem.W.Frag} {mg : Str → Option Value} {base : Heap} {A : Around} {outer : List Env} {s : Shared} {H : Hp} (e : Env0 P w K mg base A outer s H) (C : Addr) (us : List Value) (kw : List (Str × Value)) :
    Env0 P w K mg base (A.under (.builtin "type.__call__" ⟨.ref C :: us, kw⟩)) outer s H := ⟨by first | exact e.frames | (simpa [Around.under, Code.envs, Code.isFrame, pushEnvs] using e.frames), e.mod, e.bs, e.bsz, e.funs, e.frf, e.hok, e.bare⟩
section
variable {X : Cx} {pins : List (Addr × Obj)} {σ : St} {H : Hp} {s s' : Shared}
/-- from a body: what a callee wants -/
theorem Inv.env0 (I : Inv X pins σ H s) : Env0 X.prog X.w X.K X.mg X.base X.A X.stack s H :=
  ⟨I.ok.frames, I.ok.mod, I.bs, Nat.le_trans I.ok.bsz I.sz, I.stack, I.stkFree, I.hok, I.bare⟩
/-- behind a call -/
theorem Inv.after {Q : VK} {u : Value} (I : Inv X pins σ H s) (h : CE X.stack X.prog X.w H s Q u s') : EP X pins σ Q u s' := by
  obtain ⟨v, H', os, bare, un, hok, r, q⟩ := h
  obtain ⟨hh, g, d, t, os'⟩ := s'
  obtain rfl : os' = s.os := os
  exact ⟨v, H', I.call (h' := hh) (g' := g) (d' := d) (t' := t) (ch := []) un hok bare (fun b z => absurd z (by simp)), r, q⟩
end

/-- f(..): the written arguments, then the defaults dvs; E: what is wanted of an exception -/
def tCall (sp : Sp) (dvs : List V) (E : XK) (t : TA) : TE := fun σ H Q => t σ H fun vs H1 => sp (vs ++ dvs) H1 Q E
/-- o.m(..) of an instance of the class at C -/
def tMeth (C : Addr) (m : Str) (sp : Sp) (dvs : List V) (E : XK) (ta : TE) (t : TA) : TE := fun σ H Q => ta σ H fun x H1 => ∃ a dx fs, x = .ref a ∧ H1 a = some (.ins C dx fs) ∧ fs.lookup m = none ∧
  t σ H1 fun vs H2 => sp (x :: (vs ++ dvs)) H2 Q E
/-- C(..): a new instance and its dict, then __init__ -/
def tMake (C : Addr) (sp : Sp) (dvs : List V) (E : XK) (t : TA) : TE := fun σ H Q => t σ H fun vs H1 => ∀ x dx, H1 x = none → H1 dx = none → dx ≠ x →
  sp (.ref x :: (vs ++ dvs)) (upd (upd H1 dx (.own x)) x (.ins C dx [])) (fun v H2 => v = .non ∧ Q (.ref x) H2) E

/-- how the parameters are bound: us the positional arguments, kw the keywords' values by name, ds the defaults that fill up -/
def Binds (K : PySem.W.Frag) (fd : FuncData) (ps : List Str) (ds : List Value) : Prop :=
  ∀ (s : Shared) (us : List Value), K.In s.heap → (us ++ ds).length = ps.length → BindsTo s fd ⟨us, []⟩ (ps.zip (us ++ ds))
/-- every parameter is given -/
theorem Binds.all {K : PySem.W.Frag} {fd : FuncData} {ps : List Str} (h : ∀ us : List Value, us.length = ps.length → bindArgs fd ⟨us, []⟩ = pure (ps.zip us)) : Binds K fd ps [] := fun s us _ hl => by
  rw [List.append_nil] at hl ⊢
  exact .of_eq (h us hl)

/-- an exception of a callee reaches what this body wants of exceptions -/
def Passes (CX : CXT) (X : Cx) (E : XK) : Prop := ∀ (pins : List (Addr × Obj)) (σ : St) (H : Hp) (s : Shared) (e : Value) (s' : Shared), Inv X pins σ H s → CX X.stack H s E e s' → X.xe e s'

section
variable {X : Cx} {CX : CXT} {k : Nat} {f C : Addr} {fd : FuncData} {ps : List Str} {sp : Sp} {dvs : List V} {ds : List Value} {E : XK} {x m : Str} {p pos apos : Pos} {e o : Expr} {es : List Expr} {ta : TE} {t : TA}

/-- the callee runs -/
theorem run_fn {pins : List (Addr × Obj)} {σ : St} {H : Hp} {s : Shared} {Q : VK} {us : List Value} {vs : List V} (F : FnOk X.prog X.w X.K X.mg X.base CX k f fd ps sp) (hr : Room k X.A) (hb : Binds X.K fd ps ds) (hd : Vals dvs ds) (hx : Passes CX X E)
    (I : Inv X pins σ H s) (r : Vals vs us) (h : sp (vs ++ dvs) H Q E) : wpAny (model X.prog X.w) X.A (call (.ref f) us) (EP X pins σ Q) X.xe s := by
  have r2 : Vals (vs ++ dvs) (us ++ ds) := r.append hd
  have hl : (us ++ ds).length = ps.length := by rw [← r2.length]; exact F.len _ _ _ _ h
  refine wpAny_call (codeAny_mono (F.run X.A X.stack s H ⟨us, []⟩ (us ++ ds) (vs ++ dvs) Q E hr I.env0 (hb s us I.kIn hl) r2 h) fun r s' hq => ?_)
  cases r with
  | error e => exact hx pins σ H s e s' I hq
  | ok fl =>
    cases fl with
    | ret u => exact I.after hq
    | next => exact False.elim hq
    | brk => exact False.elim hq
    | cont => exact False.elim hq

theorem pe_call (F : FnOk X.prog X.w X.K X.mg X.base CX k f fd ps sp) (hr : Room k X.A) (hg : Gl X x) (hm : X.mg x = some (.ref f)) (hk : PySem.W.keepIn X.K (.ref f) = true) (hb : Binds X.K fd ps ds) (hd : Vals dvs ds) (hx : Passes CX X E)
    (ha : PA X (e :: es) t) (hdb : (x == ("__debug__" : Str)) = false := by decide) (he : starEach (e :: es) X.env = (false, eval e X.env) :: starEach es X.env := by rfl) (hpl : (backTo pos (starEach es X.env)).any (·.1) = false := by rfl) :
    PE X (.Call (.Name x p) (e :: es) [] pos) (tCall sp dvs E t) := by
  intro pins s σ H Q I h
  refine wpAny_Call_Name_kw (ld_glob I hg hm ?_ hdb)
  refine PySem.W.callWith_K (h₀ := X.base) I.ok.mod.kin hk (thn (ha pos pins s σ H _ I h) fun us s1 ⟨vs, H1, I1, r, q⟩ => ⟨I1.kIn, ?_⟩) he hpl
  exact run_fn F hr hb hd hx I1 r q
/-- o.m(e, ..) -/
theorem pe_meth {pl : Sem Bool} (he : PE X o ta) (c : Cls X.K C) (hm : Meth X.K C m f) (F : FnOk X.prog X.w X.K X.mg X.base CX k f fd ps sp) (hr : Room k X.A) (hb : Binds X.K fd ps ds) (hd : Vals dvs ds) (hx : Passes CX X E) (ha : PA X (e :: es) t)
    (hst : starEach (e :: es) X.env = (false, eval e X.env) :: starEach es X.env := by rfl) (hpl : (backTo pos (starEach es X.env)).any (·.1) = false := by rfl)
    (ht : eval (.Call (.Attribute o m apos) (e :: es) [] pos) X.env = (do
      let ov ← eval o X.env
      standAt apos.atName
      let (f, first) ← holding [ov] (getMethod ov m pl)
      callWith pos f first (backTo pos (starEach (e :: es) X.env)) (backToKw pos (keywordEach [] X.env))) := by rfl) :
    PE X (.Call (.Attribute o m apos) (e :: es) [] pos) (tMeth C m sp dvs E ta t) := by
  intro pins s σ H Q I h
  refine PySem.W.methodCall_KW (pl := pl) (thn (he pins s σ H _ I h) fun u s1 ⟨x, H1, I1, rx, a, dx, fs, ex, ea, l, q⟩ => ?_) ht
  subst ex
  obtain rfl : u = Value.ref a := rx
  refine getmeth_ok I1 ea c hm l ?_
  refine PySem.W.callWith_K (first := [.ref a]) (h₀ := X.base) I.ok.mod.kin hm.kp (thn (ha pos pins s1 σ H1 _ I1 q) fun us s2 ⟨vs, H2, I2, r, q2⟩ => ⟨I2.kIn, ?_⟩) hst hpl
  exact run_fn (us := .ref a :: us) (vs := .ref a :: vs) F hr hb hd hx I2 (.cons rfl r) q2
/-- o.m() -/
theorem pe_meth0 {pl : Sem Bool} (he : PE X o ta) (c : Cls X.K C) (hm : Meth X.K C m f) (F : FnOk X.prog X.w X.K X.mg X.base CX k f fd ps sp) (hr : Room k X.A) (hb : Binds X.K fd ps ds) (hd : Vals dvs ds) (hx : Passes CX X E)
    (ht : eval (.Call (.Attribute o m apos) [] [] pos) X.env = (do
      let ov ← eval o X.env
      standAt apos.atName
      let (f, first) ← holding [ov] (getMethod ov m pl)
      callWith pos f first (backTo pos (starEach [] X.env)) (backToKw pos (keywordEach [] X.env))) := by rfl) :
    PE X (.Call (.Attribute o m apos) [] [] pos) (tMeth C m sp dvs E ta tNil) := by
  intro pins s σ H Q I h
  refine PySem.W.methodCall_KW (pl := pl) (thn (he pins s σ H _ I h) fun u s1 ⟨x, H1, I1, rx, a, dx, fs, ex, ea, l, q⟩ => ?_) ht
  subst ex
  obtain rfl : u = Value.ref a := rx
  refine getmeth_ok I1 ea c hm l ?_
  exact PySem.W.callWith_K0 (first := [.ref a]) I1.kIn hm.kp (run_fn (us := [.ref a]) (vs := [.ref a]) F hr hb hd hx I1 (.cons rfl .nil) q)

/-- what a class must have to be made -/
structure Mk (K : PySem.W.Frag) (C f : Addr) : Prop where
  makes : PySem.W.makesIn K C = true
  init : PySem.W.findIn K (.ref C) "__init__" = some (some (.ref f))
  fn : PySem.W.isFn K (.ref f) = true
  kp : PySem.W.keepIn K (.ref C) = true

theorem run_make {pins : List (Addr × Obj)} {σ : St} {H : Hp} {s : Shared} {Q : VK} {us : List Value} {vs : List V} (M : Mk X.K C f) (F : FnOk X.prog X.w X.K X.mg X.base CX k f fd ps sp) (hr : Room (k + 1) X.A) (hb : Binds X.K fd ps ds) (hd : Vals dvs ds)
    (hx : Passes CX X E) (I : Inv X pins σ H s) (r : Vals vs us)
    (h : ∀ x dx, H x = none → H dx = none → dx ≠ x → sp (.ref x :: (vs ++ dvs)) (upd (upd H dx (.own x)) x (.ins C dx [])) (fun v H2 => v = .non ∧ Q (.ref x) H2) E) :
    wpAny (model X.prog X.w) X.A (call (.ref C) us) (EP X pins σ Q) X.xe s := by
  have hq := h (s.heap.objs.size + 1) s.heap.objs.size (I.hok.fresh (Nat.le_succ _)) (I.hok.fresh (Nat.le_refl _)) (Nat.ne_of_lt (Nat.lt_succ_self _))
  have I2 := Inv.made (C := C) I
  have r2 : Vals (V.ref (s.heap.objs.size + 1) :: (vs ++ dvs)) (Value.ref (s.heap.objs.size + 1) :: (us ++ ds)) := .cons rfl (r.append hd)
  have hl : (Value.ref (s.heap.objs.size + 1) :: us ++ ds).length = ps.length := by
    have e := r2.length
    rw [F.len _ _ _ _ hq] at e
    exact e.symm
  refine wpAny_call (make_map (f := f) I.kIn M.makes M.init (beq_iff_eq.mp M.fn) (codeAny_mono (F.run _ X.stack _ _ ⟨Value.ref (s.heap.objs.size + 1) :: us, []⟩ (Value.ref (s.heap.objs.size + 1) :: (us ++ ds)) _ _ E (hr.make C us [])
    (I2.env0.make C us []) (hb _ (Value.ref (s.heap.objs.size + 1) :: us) I2.kIn hl) r2 hq) fun r s' hq' => ?_))
  cases r with
  | error e => exact hx pins σ _ _ e s' I2 hq'
  | ok fl =>
    cases fl with
    | ret u =>
      obtain ⟨v, H', I3, rv, ev, q3⟩ := I2.after hq'
      subst ev
      exact ⟨rv, ⟨V.ref (s.heap.objs.size + 1), H', I3, rfl, q3⟩⟩
    | next => exact False.elim hq'
    | brk => exact False.elim hq'
    | cont => exact False.elim hq'
theorem pe_make (M : Mk X.K C f) (F : FnOk X.prog X.w X.K X.mg X.base CX k f fd ps sp) (hr : Room (k + 1) X.A) (hg : Gl X x) (hm : X.mg x = some (.ref C)) (hb : Binds X.K fd ps ds) (hd : Vals dvs ds) (hx : Passes CX X E)
    (ha : PA X (e :: es) t) (hdb : (x == ("__debug__" : Str)) = false := by decide) (he : starEach (e :: es) X.env = (false, eval e X.env) :: starEach es X.env := by rfl) (hpl : (backTo pos (starEach es X.env)).any (·.1) = false := by rfl) :
    PE X (.Call (.Name x p) (e :: es) [] pos) (tMake C sp dvs E t) := by
  intro pins s σ H Q I h
  refine wpAny_Call_Name_kw (ld_glob I hg hm ?_ hdb)
  refine PySem.W.callWith_K (h₀ := X.base) I.ok.mod.kin M.kp (thn (ha pos pins s σ H _ I h) fun us s1 ⟨vs, H1, I1, r, q⟩ => ⟨I1.kIn, ?_⟩) he hpl
  exact run_make M F hr hb hd hx I1 r q
end

section
variable {X : Cx} {CX : CXT} {k : Nat} {f C : Addr} {fd : FuncData} {ps ks : List Str} {sp : Sp} {E : XK} {x m : Str} {p pos apos kpos : Pos} {e o : Expr} {es : List Expr} {kws : List Keyword} {te ta : TE} {t tk : TA} {nm : Option Str}
variable {g : List Value → List Value → List Value} {gV : List V → List V → List V}
end

/-- names: the parameters first -/
structure FnScope (N P : List Str) (sc : Scope) : Prop where
  kind : sc.kind = .function
  co : sc.isCoroutine = false
  gen : sc.isGenerator = false
  nd : N.Nodup
  pre : N.take P.length = P
  par : ∀ x ∈ P, sc.names.lookup x = some .local ∨ sc.names.lookup x = some .cell
  nofree : ∀ y ∈ sc.names, y.2 ≠ .free

theorem bindL_out {kindOf : Str → Option NameKind} {x : Str} : ∀ {binds : List (Str × Value)} {m : Str → Option Value}, (∀ v, (x, v) ∉ binds) → bindL kindOf binds m x = m x
  | [], _, _ => rfl
  | (n, v) :: r, m, h => by
    unfold bindL
    rw [bindL_out fun w hw => h w (List.mem_cons_of_mem _ hw)]
    split
    · have : x ≠ n := by rintro rfl; exact h v List.mem_cons_self
      simp [this]
    · rfl
theorem bindC_out {kindOf : Str → Option NameKind} {x : Str} : ∀ {binds : List (Str × Value)} {m : Str → Option Value}, (∀ v, (x, v) ∉ binds) → bindC kindOf binds m x = m x
  | [], _, _ => rfl
  | (n, v) :: r, m, h => by
    unfold bindC
    rw [bindC_out fun w hw => h w (List.mem_cons_of_mem _ hw)]
    split
    · rfl
    · have : x ≠ n := by rintro rfl; exact h v List.mem_cons_self
      simp [this]
theorem bindL_get {kindOf : Str → Option NameKind} {x : Str} {v : Value} : ∀ {P : List Str} {vs : List Value} {i : Nat} {m : Str → Option Value}, P.Nodup → P[i]? = some x → vs[i]? = some v → kindOf x = some .local →
    bindL kindOf (P.zip vs) m x = some v
  | [], _, _, _, _, h, _, _ => by simp at h
  | _ :: _, [], _, _, _, _, h, _ => by simp at h
  | p :: P, w :: vs, 0, m, nd, h1, h2, hk => by
    simp at h1 h2; subst h1; subst h2
    show bindL kindOf ((p, w) :: P.zip vs) m p = _
    unfold bindL
    rw [bindL_out fun v hv => (List.nodup_cons.mp nd).1 (List.of_mem_zip hv).1, if_pos hk]
    simp
  | p :: P, w :: vs, i + 1, m, nd, h1, h2, hk => by
    show bindL kindOf ((p, w) :: P.zip vs) m x = _
    unfold bindL
    exact bindL_get (i := i) (List.nodup_cons.mp nd).2 (by simpa using h1) (by simpa using h2) hk
theorem bindC_get {kindOf : Str → Option NameKind} {x : Str} {v : Value} : ∀ {P : List Str} {vs : List Value} {i : Nat} {m : Str → Option Value}, P.Nodup → P[i]? = some x → vs[i]? = some v → kindOf x ≠ some .local →
    bindC kindOf (P.zip vs) m x = some v
  | [], _, _, _, _, h, _, _ => by simp at h
  | _ :: _, [], _, _, _, _, h, _ => by simp at h
  | p :: P, w :: vs, 0, m, nd, h1, h2, hk => by
    simp at h1 h2; subst h1; subst h2
    show bindC kindOf ((p, w) :: P.zip vs) m p = _
    unfold bindC
    rw [bindC_out fun v hv => (List.nodup_cons.mp nd).1 (List.of_mem_zip hv).1, if_neg hk]
    simp
  | p :: P, w :: vs, i + 1, m, nd, h1, h2, hk => by
    show bindC kindOf ((p, w) :: P.zip vs) m x = _
    unfold bindC
    exact bindC_get (i := i) (List.nodup_cons.mp nd).2 (by simpa using h1) (by simpa using h2) hk

/-- the names' values at the entry -/
def start (N : List Str) (vs : List V) : St := vs.map some ++ List.replicate (N.length - vs.length) none

/-- the context of a def's body, at its entry; an exception leaves the frame, then lies as CX says -/
def cxOf (CX : CXT) (P : Program) (w : World) (K : PySem.W.Frag) (mg : Str → Option Value) (base : Heap) (N : List Str) (qual : Str) (scope : Scope) (f : Addr) (cd : Value) (A : Around) (outer : List Env) (s : Shared) (H : Hp) (E : XK) : Cx where
  prog := P
  w := w
  K := K
  mg := mg
  base := base
  A := A.deeper (envOfC qual scope s.heap.objs.size f cd)
  N := N
  s₀ := s
  H₀ := H
  env := envOfC qual scope s.heap.objs.size f cd
  outer := outer
  stack := envOfC qual scope s.heap.objs.size f cd :: outer
  ex := []
  calm := true
  fn := fun _ => true
  pn := []
  xe := fun e s' => wpAny (model P w) (A.deeper (envOfC qual scope s.heap.objs.size f cd)) (leaving (envOfC qual scope s.heap.objs.size f cd) e) (fun _ s'' => CX outer H s E e s'') (fun e' s'' => CX outer H s E e' s'') s'

theorem cell_has {sc : Scope} {n : Nat} {x : Str} (h : sc.names.lookup x = some .cell) : ∃ c, (cellsFrom n sc.names []).lookup x = some c := by
  have q := PySem.W.cellsFrom_some sc.names n [] (.inl h)
  exact Option.isSome_iff_exists.mp q

theorem inv_start {CX : CXT} {P : Program} {w : World} {K : PySem.W.Frag} {mg : Str → Option Value} {base : Heap} {N ps : List Str} {qual : Str} {scope : Scope} {f : Addr} {cd : Value} {A : Around} {outer : List Env} {s s1 : Shared} {H : Hp} {E : XK} {us : List Value} {vs : List V}
    (S : FnScope N ps scope) (hd : A.handled = none) (e0 : Env0 P w K mg base A outer s H) (hl : vs.length = ps.length) (r : Vals vs us)
    (x : InCallC s s.heap.objs.size (bindL (envOfC qual scope s.heap.objs.size f cd).kindOf (ps.zip us) fun _ => none) (cellsFrom (s.heap.objs.size + 1) scope.names []) (bindC (envOfC qual scope s.heap.objs.size f cd).kindOf (ps.zip us) fun _ => none) s1) :
    Inv (cxOf CX P w K mg base N qual scope f cd A outer s H E) [] (start N vs) H s1 := by
  have hpl : ps.length ≤ N.length := by have := congrArg List.length S.pre; rw [List.length_take] at this; omega
  obtain ⟨h1, tk, rfl, hk⟩ := x.done
  have noA : ∀ b : Addr, b ∉ (cxOf CX P w K mg base N qual scope f cd A outer s H E).ex := fun b z => absurd (show b ∈ ([] : List Addr) from z) (by simp)
  refine ⟨⟨e0.mod, S.kind, rfl, rfl, Nat.le_refl _, fun y z c h1 h2 => ?_, fun y hy => ?_, fun y c _ h => ?_, fun _ => hd, Around.frames_deeper e0.frames, .inr ⟨rfl, rfl⟩, fun b z => absurd z (noA b), e0.bs, e0.bsz, fun b _ _ => noA b, fun b z => absurd z (noA b), e0.funs, e0.frf⟩,
    rfl, e0.bare, Un.kept hk, ⟨_, x.toInCall.ns, fun i y v h1 h2 h3 => ?_⟩, fun y c h => ⟨_, x.cell y c h⟩, e0.hok.fresh (Nat.le_refl _), fun y c h => ?_, fun p hp => absurd (show p ∈ ([] : List (Addr × Obj)) from hp) (by simp), e0.hok.kept hk, ?_⟩
  · exact name_of_addr x.apart (PySem.mem_of_lookup h1) (PySem.mem_of_lookup h2)
  · have hy : scope.names.lookup y = some .cell ∨ scope.names.lookup y = some .free := hy
    rcases hy with hy | hy
    · exact cell_has hy
    · exact absurd rfl (S.nofree _ (PySem.mem_of_lookup hy))
  · exact Nat.le_of_lt (x.above y c (PySem.mem_of_lookup h))
  · have hi : i < vs.length := by
      unfold start at h2
      by_cases hi : i < vs.length
      · exact hi
      · rw [List.getElem?_append_right (by simpa using hi)] at h2
        rw [List.getElem?_replicate] at h2
        split at h2 <;> cases h2
    have ha : vs[i]? = some v := by
      unfold start at h2
      rw [List.getElem?_append_left (by simpa using hi), List.getElem?_map] at h2
      cases e : vs[i]? with
      | none => rw [e] at h2; cases h2
      | some a => rw [e] at h2; cases h2; rfl
    obtain ⟨u, hu, rv⟩ := r.get ha
    have hp : ps[i]? = some y := by
      rw [← S.pre, List.getElem?_take_of_lt (by omega)]; exact h1
    have ndP : ps.Nodup := by rw [← S.pre]; exact S.nd.sublist (List.take_sublist _ _)
    refine ⟨u, rv, ?_⟩
    rcases S.par y (List.mem_of_getElem? hp) with k | k
    · exact .inl ⟨k, bindL_get ndP hp hu k⟩
    · obtain ⟨c, e⟩ := cell_has (n := s.heap.objs.size + 1) k
      refine .inr ⟨.inl k, c, e, ?_⟩
      have q := x.cell y c e
      rw [bindC_get ndP hp hu (by show scope.names.lookup y ≠ _; rw [k]; decide)] at q
      exact q
  · exact e0.hok.fresh (Nat.le_of_lt (x.above y c (PySem.mem_of_lookup h)))
  · unfold start
    show _ = N.length
    rw [List.length_append, List.length_map, List.length_replicate]
    omega

/-- THE RULE: a def (or a method) of the text, by its body. The body's reading t is chosen for each entry; it is run at the parameters' values -/
theorem fn_of {CX : CXT} {P : Program} {w : World} {K : PySem.W.Frag} {mg : Str → Option Value} {base : Heap} {k : Nat} {f : Addr} {name qual : Str} {params : Arguments} {body : List Stmt} {scope : Scope} {dV kV doc pm cdv ct oc : Value} {an od : Option Addr}
    {osl : Array (Option Value)} {N ps : List Str} {sp : Sp} (lk : K.lookup f = some ⟨oc, od, .func (PySem.W.fnOf name qual params body scope dV kV doc pm an cdv ct), osl⟩) (hcd : PySem.W.codeIn K cdv qual = true) (S : FnScope N ps scope)
    (len : ∀ vs H Q E, sp vs H Q E → vs.length = ps.length)
    (hbody : ∀ (A : Around) (outer : List Env) (s : Shared) (H : Hp) (vs : List V) (Q : VK) (E : XK), Room k (A.deeper (envOfC qual scope s.heap.objs.size f cdv)) → sp vs H Q E →
      ∃ t, PSs (cxOf CX P w K mg base N qual scope f cdv A outer s H E) body t ∧ t { nx := fun _ H' => Q .non H', rt := Q } (start N vs) H) :
    FnOk P w K mg base CX (k + 1) f (PySem.W.fnOf name qual params body scope dV kV doc pm an cdv ct) ps sp := by
  refine ⟨len, fun A outer s H args us vs Q E hr e0 hb r hsp => ?_⟩
  have hl := len _ _ _ _ hsp
  have KX : K.In s.heap := e0.mod.kin.keeps fun b o e => (e0.bs b o e).1
  have lim : s.heap.NoLimit := e0.mod.nolimit.keeps fun b o e => (e0.bs b o e).1
  have hkind : ∀ y ∈ ps.zip us, scope.names.lookup y.1 = some .local ∨ (scope.names.lookup y.1 = some .cell ∧ ((cellsFrom (s.heap.objs.size + 1) scope.names []).lookup y.1).isSome = true) := fun ⟨n, v⟩ hy => by
    rcases S.par n (List.of_mem_zip hy).1 with q | q
    · exact .inl q
    · exact .inr ⟨q, PySem.W.cellsFrom_some _ _ _ (.inl q)⟩
  refine codeAny_call_function hr.depth (KX _ _ lk) rfl S.co S.gen rfl (PySem.W.codeRec_of KX hcd) (hb _ _ _ _ ?_)
  refine wpAny_newFunctionEnv_cells S.kind hkind fun env he s1 x => ?_
  subst he
  refine ⟨lim.keeps x.toInCall.keep, codeAny_func ?_⟩
  obtain ⟨t, ht, hq⟩ := hbody A outer s H vs Q E (hr.deeper _) hsp
  have I : Inv (cxOf CX P w K mg base N qual scope f cdv A outer s H E) [] (start N vs) H s1 := inv_start S hr.hd e0 hl r x
  refine wpAny_mono (ht [] s1 (start N vs) H _ I hq) (fun fl s' hs => ?_) fun e s' hs => hs
  have fin : ∀ {σ' : St} {H' : Hp} {v : V} {u : Value}, Inv (cxOf CX P w K mg base N qual scope f cdv A outer s H E) [] σ' H' s' → RelV v u → Q v H' → CE outer P w H s Q u s' :=
    fun {σ' H' v u} J rv q => ⟨v, H', J.os, J.bare, J.base, J.hok, rv, q⟩
  cases fl with
  | ret u =>
    obtain ⟨v, σ', H', J, rv, q⟩ := hs
    exact fin J rv q
  | next =>
    obtain ⟨σ', H', J, q⟩ := hs
    exact fin (v := V.non) (u := Value.none) J rfl q
  | brk =>
    obtain ⟨_, _, _, q⟩ := hs
    exact False.elim q
  | cont =>
    obtain ⟨_, _, _, q⟩ := hs
    exact False.elim q
end L2

namespace L2
open PySem PySem.Spec PyProof.Rows
section
variable {X : Cx} {x : Str} {p pos : Pos} {e : Expr} {es : List Expr} {t : TA} {id T : String} {r : List V → Hp → VK → Prop}

def tCB (r : List V → Hp → VK → Prop) (t : TA) : TE := fun σ H Q => t σ H fun vs H1 => r vs H1 Q
/-- f(e, ..), f a built-in function -/
theorem pe_callB (hc : CallR X (.builtin id) r) (hg : Gl X x) (hm : X.mg x = none) (hv : bootBuiltins x = some (.builtin id)) (ha : PA X (e :: es) t) (hn : x ≠ "__name__" := by decide) (hdb : (x == ("__debug__" : Str)) = false := by decide)
    (he : starEach (e :: es) X.env = (false, eval e X.env) :: starEach es X.env := by rfl) (hpl : (backTo pos (starEach es X.env)).any (·.1) = false := by rfl) : PE X (.Call (.Name x p) (e :: es) [] pos) (tCB r t) := by
  intro pins s σ H Q I h
  refine wpAny_Call_Name_kw (ld_blt I hg hm hv ?_ hn hdb)
  exact PyProof.Rows.callWith_builtin1 (thn (ha pos pins s σ H _ I h) fun us s1 ⟨vs, H1, I1, r1, q1⟩ => hc pins s1 σ H1 vs us Q I1 r1 q1) he hpl
/-- T(e, ..), T a built-in type -/
theorem pe_callTy (hc : CallR X (.type T) r) (hg : Gl X x) (hm : X.mg x = none) (hv : bootBuiltins x = some (.type T)) (ha : PA X (e :: es) t) (hn : x ≠ "__name__" := by decide) (hdb : (x == ("__debug__" : Str)) = false := by decide)
    (he : starEach (e :: es) X.env = (false, eval e X.env) :: starEach es X.env := by rfl) (hpl : (backTo pos (starEach es X.env)).any (·.1) = false := by rfl) : PE X (.Call (.Name x p) (e :: es) [] pos) (tCB r t) := by
  intro pins s σ H Q I h
  refine wpAny_Call_Name_kw (ld_blt I hg hm hv ?_ hn hdb)
  exact PyProof.Rows.callWith_type1 (thn (ha pos pins s σ H _ I h) fun us s1 ⟨vs, H1, I1, r1, q1⟩ => hc pins s1 σ H1 vs us Q I1 r1 q1) he hpl
end
end L2

namespace HT
open PySem PyProof.Rows

section
open PySem.SeqAt
open PySem.AutoSeq1 (wpAny_loadPart')
open PySem.MeetsSeq PySem.MeetsSeq2 PySem.MeetsSeq3

end

section
variable {prog : Program} {w : World} {A : Around} {E : Value → Shared → Prop} {s : Shared}

/-- a slice's bound as a place among n (d where it is left out) -/
def sIx (n d : Nat) : Option Int → Nat
  | none => d
  | some v => if v < 0 then (v + (n : Int)).toNat else min v.toNat n
theorem sIx_nat (n d k : Nat) : sIx n d (some (k : Int)) = min k n := by
  show (if (k : Int) < 0 then ((k : Int) + (n : Int)).toNat else min (k : Int).toNat n) = min k n
  rw [if_neg (by omega), Int.toNat_natCast]
theorem clip_eq (v : Int) (n d : Nat) : (if v < 0 then max (v + (n : Int)) 0 else min v (n : Int)) = ((sIx n d (some v) : Nat) : Int) := by
  show (if v < 0 then max (v + (n : Int)) 0 else min v (n : Int)) = (((if v < 0 then (v + (n : Int)).toNat else min v.toNat n) : Nat) : Int)
  by_cases hv : v < 0
  · simp only [if_pos hv]; omega
  · simp only [if_neg hv]; omega
end
end HT

namespace L2
open PySem PySem.Spec PyProof.Rows

/-! ### the parts of a slice -/
abbrev TO := St → Hp → (Option Int → Hp → Prop) → Prop
/-- a slice's part (left out, or an int) -/
def PO (X : Cx) (e : Option Expr) (t : TO) : Prop :=
  ∀ (pins : List (Addr × Obj)) (s : Shared) (σ : St) (H : Hp) (Q : Option Int → Hp → Prop), Inv X pins σ H s → t σ H Q →
    wpAny (model X.prog X.w) X.A (evalPart e X.env) (fun u s' => ∃ o H', Inv X pins σ H' s' ∧ IsPart u o ∧ Q o H') X.xe s
def tNoPart : TO := fun _ H Q => Q none H
def tPart (t : TE) : TO := fun σ H Q => t σ H fun x H1 => ∃ i, x = .int i ∧ Q (some i) H1

section
variable {X : Cx} {e : Expr} {te : TE} {lo hi : Option Expr} {tl th : TO} {pos p2 : Pos}

theorem po_some (h : PE X e te) : PO X (some e) (tPart te) := by
  intro pins s σ H Q I hw
  rw [evalPart_some]
  refine thn (h pins s σ H _ I hw) fun u s1 ⟨x, H1, I1, r1, q1⟩ => ?_
  obtain ⟨i, rfl, q⟩ := q1
  obtain ⟨t, rfl⟩ := r1
  exact ⟨some i, H1, I1, .int i t, q⟩

/-- what a slice of a value is, by values: the slice object stands at sl -/
def SlR (X : Cx) (r : V → Option Int → Option Int → Hp → VK → Prop) : Prop :=
  ∀ (pins : List (Addr × Obj)) (s : Shared) (σ : St) (H : Hp) (x : V) (v vl vu : Value) (lo hi : Option Int) (sl : Addr) (Q : VK), Inv X pins σ H s → RelV x v → s.heap.IsSliceOf sl vl vu .none → IsPart vl lo → IsPart vu hi → r x lo hi H Q →
    ∃ T id, typeLookup (.type T) "__getitem__" = pure (some (.builtin id)) ∧ s.TypeIs v T ∧ wpAny (model X.prog X.w) X.A (getItem v (.ref sl)) (EP X pins σ Q) X.xe s
theorem SlR.or {r r' : V → Option Int → Option Int → Hp → VK → Prop} (h : SlR X r) (h' : SlR X r') : SlR X (fun x lo hi H Q => r x lo hi H Q ∨ r' x lo hi H Q) := by
  intro pins s σ H x v vl vu lo hi sl Q I rx hs pl pu q
  rcases q with q | q
  · exact h pins s σ H x v vl vu lo hi sl Q I rx hs pl pu q
  · exact h' pins s σ H x v vl vu lo hi sl Q I rx hs pl pu q
def tSl (r : V → Option Int → Option Int → Hp → VK → Prop) (te : TE) (tl th : TO) : TE := fun σ H Q => te σ H fun x H1 => tl σ H1 fun l H2 => th σ H2 fun u H3 => r x l u H3 Q
/-- a[lo:hi], any a -/
theorem pe_slice {r : V → Option Int → Option Int → Hp → VK → Prop} (hr : SlR X r) (he : PE X e te) (hl : PO X lo tl) (hu : PO X hi th) : PE X (.Subscript e (.Slice lo hi none p2) pos) (tSl r te tl th) := by
  intro pins s σ H Q I h
  refine Subscript_ (thn (he pins s σ H _ I h) fun v s1 ⟨x, H1, I1, r1, q1⟩ => ?_)
  refine wpAny_Slice (thn (hl pins s1 σ H1 _ I1 q1) fun vl s2 ⟨l, H2, I2, pl, q2⟩ => thn (hu pins s2 σ H2 _ I2 q2) fun vu s3 ⟨u, H3, I3, pu, q3⟩ => ?_)
  rw [evalPart_none]
  refine wpAny_pure ?_
  have I4 : Inv X pins σ H3 { s3 with heap := s3.heap.push { cls := .type "slice", data := .fields #[vl, vu, .none] } } := I3.kept (t' := s3.toks) fun b ob q => Heap.get?_push_of_some _ q
  obtain ⟨T, id, hT, ht, hg⟩ := hr pins { s3 with heap := s3.heap.push { cls := .type "slice", data := .fields #[vl, vu, .none] } } σ H3 x v vl vu l u s3.heap.objs.size Q I4 r1 (Heap.IsSliceOf.new ..) pl pu q3
  show wpAny (model X.prog X.w) X.A (subscriptTail e (.Slice lo hi none p2) v (.ref s3.heap.objs.size)) (EP X pins σ Q) X.xe { s3 with heap := s3.heap.push { cls := .type "slice", data := .fields #[vl, vu, .none] } }
  exact tail_any (ops := [.ref s3.heap.objs.size, v]) ht hT hg (by with_unfolding_all rfl)

/-- the items of xs[lo:hi] -/
def cutV (xs : List V) (lo hi : Option Int) : List V := (xs.drop (HT.sIx xs.length 0 lo)).take (HT.sIx xs.length xs.length hi - HT.sIx xs.length 0 lo)
theorem cutV_length (xs : List V) (lo hi : Option Int) : (cutV xs lo hi).length ≤ xs.length := by
  unfold cutV
  rw [List.length_take, List.length_drop]
  omega
/-- t[lo:hi], not the whole of it (the whole would be t itself) -/
def rSlT (K : PySem.W.Frag) : V → Option Int → Option Int → Hp → VK → Prop := fun x lo hi H Q => ∃ a xs, x = .ref a ∧ SqT K H a xs ∧
  ¬ (HT.sIx xs.length 0 lo = 0 ∧ HT.sIx xs.length xs.length hi = xs.length) ∧ ∀ p, H p = none → Q (.ref p) (upd H p (.tup (cutV xs lo hi)))
end
end L2

namespace L2
open PySem PySem.Spec PyProof.Rows

/-- the place that an index of any sign means -/
def ixN (n : Nat) (i : Int) : Option Nat := if 0 ≤ i then (if i < n then some i.toNat else none) else if -(n : Int) ≤ i then some (i + n).toNat else none
def atI {α : Type} (xs : List α) (i : Int) : Option α := (ixN xs.length i).bind fun j => xs[j]?
theorem ixN_seq {n : Nat} {i : Int} {j : Nat} (h : ixN n i = some j) : seqIndex? i n = some j ∧ j < n ∧ -(n : Int) ≤ i ∧ i < n := by
  unfold ixN at h
  by_cases h0 : 0 ≤ i
  · rw [if_pos h0] at h
    by_cases h1 : i < n
    · rw [if_pos h1] at h
      have e : i.toNat = j := Option.some.inj h
      exact ⟨by rw [seqIndex_of h0 h1, e], by omega, by omega, h1⟩
    · rw [if_neg h1] at h; cases h
  · rw [if_neg h0] at h
    by_cases h1 : -(n : Int) ≤ i
    · rw [if_pos h1] at h
      have e : (i + n).toNat = j := Option.some.inj h
      exact ⟨by rw [seqIndex_neg (by omega) h1, e], by omega, h1, by omega⟩
    · rw [if_neg h1] at h; cases h
theorem atI_get {α : Type} {xs : List α} {i : Int} {v : α} (h : atI xs i = some v) : ∃ j, seqIndex? i xs.length = some j ∧ xs[j]? = some v ∧ j < xs.length ∧ -(xs.length : Int) ≤ i ∧ i < xs.length := by
  unfold atI at h
  cases e : ixN xs.length i with
  | none => rw [e] at h; cases h
  | some j =>
    rw [e] at h
    obtain ⟨h1, h2, h3, h4⟩ := ixN_seq e
    exact ⟨j, h1, h, h2, h3, h4⟩
theorem atI_nat {α : Type} {xs : List α} {j : Nat} {v : α} (h : xs[j]? = some v) : atI xs (j : Int) = some v := by
  have hj : j < xs.length := (List.getElem?_eq_some_iff.mp h).1
  have e : ixN xs.length (j : Int) = some j := by
    unfold ixN
    rw [if_pos (by omega), if_pos (by omega)]; simp
  unfold atI; rw [e]; exact h
/-- what stands as an index of a plain subscript -/
def PlainIx (b : Expr) : Prop := ∀ o i, subscripted b false o i = operate [o, i] (getItem o i)
/-- a subscript by values -/
def IxR (X : Cx) (r : R2) : Prop :=
  ∀ (value slice : Expr) (pins : List (Addr × Obj)) (s : Shared) (σ : St) (H : Hp) (x y : V) (v u : Value) (Q : VK), Inv X pins σ H s → RelV x v → RelV y u → r x y H Q →
    subscripted slice false v u = operate [v, u] (getItem v u) → wpAny (model X.prog X.w) X.A (subscriptTail value slice v u) (EP X pins σ Q) X.xe s
/-- a call of a builtin's method by values: the receiver, the arguments -/
def MtR (X : Cx) (id : String) (r : V → List V → Hp → VK → Prop) : Prop :=
  ∀ (pins : List (Addr × Obj)) (s : Shared) (σ : St) (H : Hp) (x : V) (xs : List V) (v : Value) (us : List Value) (Q : VK), Inv X pins σ H s → RelV x v → Vals xs us → r x xs H Q →
    wpAny (model X.prog X.w) X.A (call (.builtin id) (v :: us)) (EP X pins σ Q) X.xe s
section
variable {X : Cx} {a b : Expr} {ta tb : TE} {pos : Pos}
theorem IxR.or {r r' : R2} (h : IxR X r) (h' : IxR X r') : IxR X (fun x y H Q => r x y H Q ∨ r' x y H Q) := by
  intro value slice pins s σ H x y v u Q I rx ry q hs
  rcases q with q | q
  · exact h value slice pins s σ H x y v u Q I rx ry q hs
  · exact h' value slice pins s σ H x y v u Q I rx ry q hs
theorem MtR.or {id : String} {r r' : V → List V → Hp → VK → Prop} (h : MtR X id r) (h' : MtR X id r') : MtR X id (fun x xs H Q => r x xs H Q ∨ r' x xs H Q) := by
  intro pins s σ H x xs v us Q I rx rs q
  rcases q with q | q
  · exact h pins s σ H x xs v us Q I rx rs q
  · exact h' pins s σ H x xs v us Q I rx rs q
/-- a[b] -/
theorem pe_ix {r : R2} (hr : IxR X r) (ha : PE X a ta) (hb : PE X b tb) (hs : PlainIx b) : PE X (.Subscript a b pos) (tOp r ta tb) := by
  intro pins s σ H Q I h
  exact Subscript_ (binT ha hb I h fun v u s2 x y H2 I2 rx ry q => hr a b pins s2 σ H2 x y v u Q I2 rx ry q (hs _ _))

def rIxL (K : PySem.W.Frag) : R2 := fun x y H Q => ∃ p xs i v, x = .ref p ∧ y = .int i ∧ SqL K H p xs ∧ atI xs i = some v ∧ Q v H
def rIxT (K : PySem.W.Frag) : R2 := fun x y H Q => ∃ p xs i v, x = .ref p ∧ y = .int i ∧ SqT K H p xs ∧ atI xs i = some v ∧ Q v H
def rIxS : R2 := fun x y H Q => ∃ z i c, x = .str z ∧ y = .int i ∧ z.length ≤ sizeLine ∧ atI z.cps.toList i = some c ∧ Q (.str ⟨#[c]⟩) H
theorem ix_list : IxR X (rIxL X.K) := by
  intro value slice pins s σ H x y v u Q I rx ry h hs
  obtain ⟨p, xs, i, z, rfl, rfl, hq, he, q⟩ := h
  cases rx
  obtain ⟨t, rfl⟩ := ry
  obtain ⟨its, r, pl, hz⟩ := I.list hq
  obtain ⟨j, h1, h2, h3, h4, h5⟩ := atI_get he
  obtain ⟨w, ew, rw'⟩ := r.get h2
  have hl := r.length
  have hn := line63
  have fin : EP X pins σ Q w s := ⟨z, H, I, rw', q⟩
  by_cases h0 : 0 ≤ i
  · have hj : i.toNat = j := by
      rw [seqIndex_of h0 h5] at h1
      exact Option.some.inj h1
    exact item_listR pl.isList h0 (by omega) (by rw [hj]; simpa using ew) fin hs
  · have hj : (i + (its.toArray.size : Int)).toNat = j := by
      rw [seqIndex_neg (by omega) h4] at h1
      rw [List.size_toArray, ← hl]
      exact Option.some.inj h1
    exact subscriptTail_builtinR (x := w) pl.isList.typeIs slot_list_getitem.lookup
      (wpAny_getItem_list_neg (Q := fun r s' => r = w ∧ EP X pins σ Q r s') pl.isList (by omega) (by rw [List.size_toArray] <;> omega) (by omega) (by rw [hj]; simpa using ew) ⟨rfl, fin⟩) hs
theorem ix_tup : IxR X (rIxT X.K) := by
  intro value slice pins s σ H x y v u Q I rx ry h hs
  obtain ⟨p, xs, i, z, rfl, rfl, hq, he, q⟩ := h
  cases rx
  obtain ⟨t, rfl⟩ := ry
  obtain ⟨its, r, pl, hz⟩ := I.tuple hq
  obtain ⟨j, h1, h2, h3, h4, h5⟩ := atI_get he
  obtain ⟨w, ew, rw'⟩ := r.get h2
  have hl := r.length
  have hn := line63
  have fin : EP X pins σ Q w s := ⟨z, H, I, rw', q⟩
  exact subscriptTail_builtinR (x := w) pl.typeIs slot_tuple_getitem.lookup
    (getItem_tuple (j := j) (Q := fun r s' => r = w ∧ EP X pins σ Q r s') pl (by omega) (by omega) (by rw [List.size_toArray, ← hl]; exact h1) (by simpa using ew) ⟨rfl, fin⟩) hs
theorem ix_str : IxR X rIxS := by
  intro value slice pins s σ H x y v u Q I rx ry h hs
  obtain ⟨z, i, c, rfl, rfl, hz, he, q⟩ := h
  obtain ⟨t, rfl⟩ := rx
  obtain ⟨t', rfl⟩ := ry
  obtain ⟨j, h1, h2, h3, h4, h5⟩ := atI_get he
  have hl : z.cps.toList.length = z.length := by simp [Str.length]
  rw [hl] at h1 h4 h5
  have hn := line63
  exact tail_any (typeIs_str s z t) slot_str_getitem.lookup (getItem_str (c := c) (by
    have e1 : decide (i < -(2 ^ 63 : Int)) = false := decide_eq_false (by omega)
    have e2 : decide (i ≥ 2 ^ 63) = false := decide_eq_false (by omega)
    rw [e1, e2, Bool.or_false]) (by rw [h1]; simpa using h2) ⟨.str ⟨#[c]⟩, H, I.tok _, ⟨_, rfl⟩, q⟩) hs
/-- list, tuple or str -/
def rIx (K : PySem.W.Frag) : R2 := fun x y H Q => rIxL K x y H Q ∨ rIxT K x y H Q ∨ rIxS x y H Q
theorem ix_seq : IxR X (rIx X.K) := ix_list.or (ix_tup.or ix_str)

/-- the list's object behind a store -/
theorem mapSeq_set (its : List Value) (n j : Nat) (u : Value) : Obj.mapSeq (·.setIfInBounds j u) { cls := .type "list", data := .seq its.toArray n } = { cls := .type "list", data := .seq (its.set j u).toArray n } := by
  simp [Obj.mapSeq]
theorem Inv.lst {pins : List (Addr × Obj)} {σ : St} {H : Hp} {s : Shared} {p : Addr} {xs : List V} (I : Inv X pins σ H s) (h : H p = some (.lst xs)) :
    ∃ (its : List Value) (n : Nat), Vals xs its ∧ s.heap.get? p = some { cls := .type "list", data := .seq its.toArray n } ∧ xs.length ≤ sizeLine := by
  obtain ⟨z, its, n, r, e⟩ := I.hok p _ h
  exact ⟨its, n, r, e, z⟩
/-- the list at p is written by an update of its object -/
theorem Inv.lstUpd {pins : List (Addr × Obj)} {σ : St} {H : Hp} {s : Shared} {p : Addr} {xs ys : List V} {its its' : List Value} {n n' : Nat} {f : Obj → Obj} (I : Inv X pins σ H s) (h : H p = some (.lst xs))
    (ho : s.heap.get? p = some { cls := .type "list", data := .seq its.toArray n }) (hf : f { cls := .type "list", data := .seq its.toArray n } = { cls := .type "list", data := .seq its'.toArray n' }) (r : Vals ys its') (hz : ys.length ≤ sizeLine) (t : Nat) :
    Inv X pins σ (upd H p (.lst ys)) { s with heap := s.heap.update p f, toks := t } := by
  have e : (s.heap.update p f).get? p = some { cls := .type "list", data := .seq its'.toArray n' } := by
    rw [Heap.get?_update_self f ho (by rw [hf] <;> rfl), hf]
  refine I.write (x := p) (e := p) (by rw [h]; trivial) (.inl rfl) (fun b u hb q => (Heap.get?_update_other _ _ (Ne.symm hb)).trans q) ⟨_, e⟩ ?_
  exact ⟨hz, its', n', r, e⟩
def rSetL : V → V → V → Hp → (Hp → Prop) → Prop := fun o i v H Q => ∃ p xs k j, o = .ref p ∧ i = .int k ∧ H p = some (.lst xs) ∧ ixN xs.length k = some j ∧ Q (upd H p (.lst (xs.set j v)))
theorem set_list : PSet X rSetL := by
  intro pins s σ H o i v ov iv u Q I ro ri rv h
  obtain ⟨p, xs, k, j, rfl, rfl, hp, hj, q⟩ := h
  cases ro
  obtain ⟨t, rfl⟩ := ri
  obtain ⟨its, n, r, ho, hz⟩ := I.lst hp
  obtain ⟨h1, h2, h3, h4⟩ := ixN_seq hj
  have hl := r.length
  have hn := line63
  have I' : Inv X pins σ (upd H p (.lst (xs.set j v))) { s with heap := s.heap.update p (Obj.mapSeq (·.setIfInBounds j u)) } :=
    I.lstUpd hp ho (mapSeq_set its n j u) (r.set rv j) (by rw [List.length_set]; exact hz) s.toks
  by_cases h0 : 0 ≤ k
  · have hk : k.toNat = j := by
      rw [seqIndex_of h0 h4] at h1
      exact Option.some.inj h1
    exact PySem.W.ki_setAt ho h0 (by omega) (by rw [List.size_toArray, ← hl]; exact h4) (by rw [hk]; exact ⟨_, I', q⟩)
  · have hk : (k + (its.toArray.size : Int)).toNat = j := by
      rw [seqIndex_neg (by omega) h3] at h1
      rw [List.size_toArray, ← hl]
      exact Option.some.inj h1
    exact PySem.W.ki_setBack ho (by omega) (by rw [List.size_toArray, ← hl]; exact h3) (by omega) (by rw [hk]; exact ⟨_, I', q⟩)

/-! ### slices -/
theorem slice_bounds (lo hi : Option Int) (n : Nat) : (sliceBounds lo hi none n).1 = ((HT.sIx n 0 lo : Nat) : Int) ∧ (sliceBounds lo hi none n).2.1 = ((HT.sIx n n hi : Nat) : Int) ∧ (sliceBounds lo hi none n).2.2 = 1 := by
  refine ⟨?_, ?_, rfl⟩
  · cases lo with
    | none => simp [sliceBounds, HT.sIx]
    | some i =>
      simp only [sliceBounds, HT.sIx, Option.getD_none, show (1 : Int) > 0 by decide, if_true]
      by_cases h : i < 0
      · simp only [h, if_true] <;> omega
      · simp only [h, if_false] <;> omega
  · cases hi with
    | none => simp [sliceBounds, HT.sIx]
    | some i =>
      simp only [sliceBounds, HT.sIx, Option.getD_none, show (1 : Int) > 0 by decide, if_true]
      by_cases h : i < 0
      · simp only [h, if_true] <;> omega
      · simp only [h, if_false] <;> omega
theorem slicePick_cut (its : List Value) (lo hi : Option Int) : slicePick its.toArray lo hi none = ((its.drop (HT.sIx its.length 0 lo)).take (HT.sIx its.length its.length hi - HT.sIx its.length 0 lo)).toArray := by
  obtain ⟨h1, h2, h3⟩ := slice_bounds lo hi its.toArray.size
  unfold slicePick
  rw [h1, h2, h3]
  simp only [sliceRange_one, pick_run, List.size_toArray] <;> rfl
/-- xs[lo:hi] of a list: a new list -/
def rSlL (K : PySem.W.Frag) : V → Option Int → Option Int → Hp → VK → Prop := fun x lo hi H Q => ∃ a xs, x = .ref a ∧ SqL K H a xs ∧ ∀ p, H p = none → Q (.ref p) (upd H p (.lst (cutV xs lo hi)))
theorem sl_list : SlR X (rSlL X.K) := by
  intro pins s σ H x v vl vu lo hi sl Q I rx hs pl pu h
  obtain ⟨a, xs, rfl, hx, q⟩ := h
  cases rx
  obtain ⟨its, r, ht, hz⟩ := I.list hx
  have hlen := r.length
  refine ⟨"list", _, slot_list_getitem.lookup, ht.isList.typeIs, ?_⟩
  refine wpAny_getItem_list_slice ht.isList hs pl pu .none (by simp) ?_ (by rw [List.size_toArray] <;> omega)
  rw [slicePick_cut, ← hlen]
  refine ⟨.ref s.heap.objs.size, _, I.laid (t' := s.toks) (o := .lst (cutV xs lo hi)) (fun b ob q => Heap.get?_push_of_some _ q) (Nat.le_refl _) ?_, rfl, q _ (I.hok.fresh (Nat.le_refl _))⟩
  exact ⟨Nat.le_trans (cutV_length xs lo hi) hz, _, 0, (r.drop (HT.sIx xs.length 0 lo)).take (HT.sIx xs.length xs.length hi - HT.sIx xs.length 0 lo), Heap.get?_push_size _ rfl⟩

/-! ### in, not in: flat items -/
def flatV : V → Bool
  | .non => true
  | .bl _ => true
  | .int _ => true
  | .str _ => true
  | _ => false
/-- == of flat values -/
def eqV : V → V → Bool
  | .non, .non => true
  | .bl a, .bl b => a == b
  | .bl a, .int b => (if a then 1 else 0) == b
  | .int a, .bl b => a == (if b then 1 else 0)
  | .int a, .int b => a == b
  | .str a, .str b => a == b
  | _, _ => false
theorem eqAt_V {A : Around} {s : Shared} {y x : V} {u v : Value} (ry : RelV y u) (rx : RelV x v) (fy : flatV y = true) (fx : flatV x = true) : SeqAt.EqAt A s u v (eqV y x) := by
  cases y with
  | non =>
    cases ry
    cases x with
    | non => cases rx; exact SeqAt.EqAt.same _
    | bl b => cases rx; exact SeqAt.EqAt.none_bool b
    | int b => obtain ⟨t, rfl⟩ := rx; exact SeqAt.EqAt.none_int b t
    | str b => obtain ⟨t, rfl⟩ := rx; exact SeqAt.EqAt.none_str b t
    | _ => exact absurd (show false = true from fx) Bool.false_ne_true
  | bl a =>
    cases ry
    cases x with
    | non => cases rx; exact SeqAt.EqAt.bool_none a
    | bl b => cases rx; exact SeqAt.EqAt.bool_bool a b
    | int b => obtain ⟨t, rfl⟩ := rx; exact SeqAt.EqAt.bool_int a b t
    | str b => obtain ⟨t, rfl⟩ := rx; exact SeqAt.EqAt.bool_str a b t
    | _ => exact absurd (show false = true from fx) Bool.false_ne_true
  | int a =>
    obtain ⟨t', rfl⟩ := ry
    cases x with
    | non => cases rx; exact SeqAt.EqAt.int_none a t'
    | bl b => cases rx; exact SeqAt.EqAt.int_bool a t' b
    | int b => obtain ⟨t, rfl⟩ := rx; exact SeqAt.EqAt.int_int a t' b t
    | str b => obtain ⟨t, rfl⟩ := rx; exact SeqAt.EqAt.int_str a t' b t
    | _ => exact absurd (show false = true from fx) Bool.false_ne_true
  | str a =>
    obtain ⟨t', rfl⟩ := ry
    cases x with
    | non => cases rx; exact SeqAt.EqAt.str_none a t'
    | bl b => cases rx; exact SeqAt.EqAt.str_bool a t' b
    | int b => obtain ⟨t, rfl⟩ := rx; exact SeqAt.EqAt.str_int a t' b t
    | str b => obtain ⟨t, rfl⟩ := rx; exact SeqAt.EqAt.str_str a t' b t
    | _ => exact absurd (show false = true from fx) Bool.false_ne_true
  | _ => exact absurd (show false = true from fy) Bool.false_ne_true
/-- the items' answers, read off the values (a value's own answer does not lean on its token) -/
def eqU (x : V) (u : Value) : Bool := match u with
  | .none => eqV .non x
  | .bool b => eqV (.bl b) x
  | .int i _ => eqV (.int i) x
  | .str z _ => eqV (.str z) x
  | _ => false
theorem eqU_of {x y : V} {u : Value} (r : RelV y u) (f : flatV y = true) : eqU x u = eqV y x := by
  cases y with
  | non => cases r; rfl
  | bl b => cases r; rfl
  | int i => obtain ⟨t, rfl⟩ := r; rfl
  | str z => obtain ⟨t, rfl⟩ := r; rfl
  | _ => exact absurd (show false = true from f) Bool.false_ne_true
theorem any_eqU {x : V} : ∀ {xs : List V} {us : List Value}, Vals xs us → xs.all flatV = true → us.any (eqU x) = xs.any fun y => eqV y x
  | _, _, .nil, _ => rfl
  | y :: xs, u :: us, .cons r t, f => by
    rw [List.all_cons, Bool.and_eq_true] at f
    rw [List.any_cons, List.any_cons, eqU_of r f.1, any_eqU t f.2]
theorem mem_eqAt {A : Around} {s : Shared} {x : V} {v : Value} (rx : RelV x v) (fx : flatV x = true) : ∀ {xs : List V} {us : List Value}, Vals xs us → xs.all flatV = true → ∀ u ∈ us, SeqAt.EqAt A s u v (eqU x u)
  | _, _, .nil, _ => fun u hu => by cases hu
  | y :: xs, u :: us, .cons r t, f => fun u' hu => by
    rw [List.all_cons, Bool.and_eq_true] at f
    rcases List.mem_cons.mp hu with rfl | hu
    · rw [eqU_of r f.1]; exact eqAt_V r rx f.1 fx
    · exact mem_eqAt rx fx t f.2 u' hu
def inV (x : V) (xs : List V) : Bool := xs.any fun y => eqV y x
/-- x in a list or tuple of flat items -/
def rIn (K : PySem.W.Frag) (neg : Bool) : R2 := fun x y H Q => ∃ p xs, y = .ref p ∧ (SqL K H p xs ∨ SqT K H p xs) ∧ flatV x = true ∧ xs.all flatV = true ∧ Q (.bl (if neg then !inV x xs else inV x xs)) H
theorem op_in_seq : OpR X (compareOp .In) (rIn X.K false) := by
  intro pins s σ H x y v u Q I rx ry h
  obtain ⟨p, xs, rfl, hq, fx, fs, q⟩ := h
  cases ry
  rcases hq with hq | hq
  · obtain ⟨its, r, pl, hz⟩ := I.list hq
    refine SeqAt.in_listAt (eqU x) pl.isList (fun w hw => mem_eqAt rx fx r fs w (by simpa using hw)) ⟨.bl _, H, I, rfl, ?_⟩
    rw [show its.toArray.any (eqU x) = its.any (eqU x) by simp, any_eqU r fs]
    exact q
  · obtain ⟨its, r, pl, hz⟩ := I.tuple hq
    refine SeqAt.in_tupleAt (eqU x) pl (fun w hw => mem_eqAt rx fx r fs w (by simpa using hw)) ⟨.bl _, H, I, rfl, ?_⟩
    rw [show its.toArray.any (eqU x) = its.any (eqU x) by simp, any_eqU r fs]
    exact q
/-! ### len, list(x), tuple(x) of any list or tuple that is read -/
theorem call_len_seq : CallR X (.builtin "len") (fun xs H Q => ∃ p ys, xs = [.ref p] ∧ (SqL X.K H p ys ∨ SqT X.K H p ys) ∧ Q (.int ys.length) H) := by
  intro pins s σ H xs us Q I r h
  obtain ⟨p, ys, rfl, hq, q⟩ := h
  obtain ⟨u, rfl, rx⟩ := vals1 r
  cases rx
  have hn := line63
  rcases hq with hq | hq
  · obtain ⟨its, r', pl, hz⟩ := I.list hq
    have hlen := r'.length
    exact Calls.call_len_list pl.isList (by simp only [List.size_toArray] <;> omega) ⟨.int ys.length, H, I.tok _, ⟨s.toks + 1, by rw [List.size_toArray, hlen]⟩, q⟩
  · obtain ⟨its, r', pl, hz⟩ := I.tuple hq
    have hlen := r'.length
    exact len_tuple pl (by simp only [List.size_toArray] <;> omega) ⟨.int ys.length, H, I.tok _, ⟨s.toks + 1, by rw [List.size_toArray, hlen]⟩, q⟩
theorem CallR.or {f : Value} {r r' : List V → Hp → VK → Prop} (h : CallR X f r) (h' : CallR X f r') : CallR X f (fun xs H Q => r xs H Q ∨ r' xs H Q) := by
  intro pins s σ H xs us Q I rs q
  rcases q with q | q
  · exact h pins s σ H xs us Q I rs q
  · exact h' pins s σ H xs us Q I rs q
theorem call_list_of : CallR X (.type "list") (fun xs H Q => ∃ p ys, xs = [.ref p] ∧ (SqL X.K H p ys ∨ SqT X.K H p ys) ∧ ∀ l, H l = none → Q (.ref l) (upd H l (.lst ys))) := by
  intro pins s σ H xs us Q I r h
  obtain ⟨p, ys, rfl, hq, q⟩ := h
  obtain ⟨u, rfl, rx⟩ := vals1 r
  cases rx
  have fin : ∀ (its : List Value), Vals ys its → ys.length ≤ sizeLine → ∀ (h' : Heap) (c' : Nat), (∀ b o', s.heap.get? b = some o' → h'.get? b = some o') →
      h'.get? s.heap.objs.size = some { cls := .type "list", dict := none, data := .seq its.toArray c', slots := #[] } → EP X pins σ Q (.ref s.heap.objs.size) { s with heap := h' } := fun its r' hz h' c' kp e =>
    ⟨.ref s.heap.objs.size, _, I.laid (t' := s.toks) kp (Nat.le_refl _) (show ObjOk X.prog X.w _ h' _ (.lst ys) from ⟨hz, its, c', r', e⟩), rfl, q _ (I.hok.fresh (Nat.le_refl _))⟩
  rcases hq with hq | hq
  · obtain ⟨its, r', pl, hz⟩ := I.list hq
    have hlen := r'.length
    obtain ⟨o, ho, hc, n, hd⟩ := pl.isList
    exact call_list_seq p (.inl rfl) ho hc hd (fun h' c' kp e => fin its r' hz h' c' kp e) (by simp only [List.size_toArray] <;> omega)
  · obtain ⟨its, r', pl, hz⟩ := I.tuple hq
    have hlen := r'.length
    obtain ⟨o, ho, hc, n, hd⟩ := pl
    exact call_list_seq p (.inr rfl) ho hc hd (fun h' c' kp e => fin its r' hz h' c' kp e) (by simp only [List.size_toArray] <;> omega)
/-- the value is of that builtin type -/
def tyV (K : PySem.W.Frag) (T : String) (x : V) (H : Hp) : Prop := match x with
  | .str _ => T = "str"
  | .int _ => T = "int"
  | .ref p => (T = "list" ∧ ∃ xs, SqL K H p xs) ∨ (T = "tuple" ∧ ∃ o, K.lookup p = some o ∧ o.cls = .type "tuple" ∧ o.dict = none) ∨
      (T = "dict" ∧ ((∃ kvs, H p = some (.dK kvs)) ∨ ∃ kvs, H p = some (.dT kvs))) ∨ (T = "set" ∧ ∃ S n, H p = some (.set S n))
  | _ => False
theorem tyV_is {pins : List (Addr × Obj)} {σ : St} {H : Hp} {s : Shared} {T : String} {x : V} {v : Value} (I : Inv X pins σ H s) (r : RelV x v) (ty : tyV X.K T x H) :
    s.TypeIs v T ∧ ∀ a, v = .ref a → ∃ ob, s.heap.get? a = some ob ∧ ob.dict = none := by
  cases x with
  | str z =>
    obtain ⟨t, rfl⟩ := r
    cases (show T = "str" from ty)
    exact ⟨typeIs_str s z t, fun _ e => nomatch e⟩
  | int i =>
    obtain ⟨t, rfl⟩ := r
    cases (show T = "int" from ty)
    exact ⟨typeIs_int s i t, fun _ e => nomatch e⟩
  | ref p =>
    cases r
    rcases ty with ⟨rfl, xs, hq⟩ | ⟨rfl, o, hk, hc, hd⟩ | ⟨rfl, hk⟩ | ⟨rfl, S, n, hk⟩
    · obtain ⟨its, _, pl, _⟩ := I.list hq
      refine ⟨pl.isList.typeIs, fun a e => ?_⟩
      cases e
      obtain ⟨o, n, e, c, hd, _⟩ := pl
      exact ⟨o, e, hd⟩
    · refine ⟨⟨o, I.kIn p o hk, hc⟩, fun a e => ?_⟩
      cases e
      exact ⟨o, I.kIn _ o hk, hd⟩
    · have z : ∃ o, s.heap.get? p = some o ∧ o.ExactDict := by
        rcases hk with ⟨kvs, hk⟩ | ⟨kvs, hk⟩
        · obtain ⟨_, _, _, _, o, _, _, e, ex, _⟩ := I.hok p _ hk
          exact ⟨o, e, ex⟩
        · obtain ⟨_, _, _, _, o, _, _, e, ex, _⟩ := I.hok p _ hk
          exact ⟨o, e, ex⟩
      obtain ⟨o, e, ex⟩ := z
      refine ⟨⟨o, e, ex.1⟩, fun a e2 => ?_⟩
      cases e2
      exact ⟨o, e, ex.2.1⟩
    · obtain ⟨o, _, _, _, e, ex, _⟩ := I.hok p _ hk
      refine ⟨⟨o, e, ex.1⟩, fun a e2 => ?_⟩
      cases e2
      exact ⟨o, e, ex.2.1⟩
  | _ => exact False.elim ty
def tBM0 (K : PySem.W.Frag) (T : String) (r : V → List V → Hp → VK → Prop) (to : TE) : TE := fun σ H Q => to σ H fun x H1 => tyV K T x H1 ∧ r x [] H1 Q
def tBM (K : PySem.W.Frag) (T : String) (r : V → List V → Hp → VK → Prop) (to : TE) (t : TA) : TE := fun σ H Q => to σ H fun x H1 => tyV K T x H1 ∧ t σ H1 fun xs H2 => r x xs H2 Q
variable {o e : Expr} {es : List Expr} {to : TE} {t : TA} {name : Str} {apos cpos : Pos} {T id : String} {r : V → List V → Hp → VK → Prop}
theorem pe_bm (pa : PlainAttrs T) (slot : Slot T name id) (hty : typeOf (.builtin id) = pure (.type "method_descriptor")) (hm : MtR X id r) (ho : PE X o to) (ha : PA X (e :: es) t)
    (hbase : attributeBase o name X.env (eval o X.env) = eval o X.env := by rfl)
    (hfew : ((backTo cpos (starEach (e :: es) X.env)).all (fun x => !x.1) && (backToKw cpos (keywordEach [] X.env)).all (fun x => x.1.isSome)
      && decide ((e :: es).length + ([] : List Keyword).length + (if ([] : List Keyword).isEmpty then 0 else 1) < 30)) = true := by rfl)
    (hline : (apos.endLine == cpos.line) = true := by rfl) (hs : starEach (e :: es) X.env = (false, eval e X.env) :: starEach es X.env := by rfl) (hplain : (backTo cpos (starEach es X.env)).any (·.1) = false := by rfl) :
    PE X (.Call (.Attribute o name apos) (e :: es) [] cpos) (tBM X.K T r to t) := by
  intro pins s σ H Q I h
  refine wpAny_Call_method_late hbase hfew hline rfl (thn (ho pins s σ H _ I h) fun v s1 ⟨x, H1, I1, r1, ty, q1⟩ => ?_)
  obtain ⟨h1, h2⟩ := tyV_is I1 r1 ty
  refine ⟨T, id, pa, slot, hty, h1, h2, ?_⟩
  have hA := ha cpos pins s1 σ H1 _ I1 q1
  rw [hs] at hA ⊢
  refine Calls.callWith_builtin (by show (false || (backTo cpos (starEach es X.env)).any (·.1)) = false; rw [hplain] <;> rfl) (Calls.evalArgs_plain ?_)
  exact thn hA fun us s2 ⟨vs, H2, I2, r2, q2⟩ => hm pins s2 σ H2 x vs v us Q I2 r1 r2 q2
end
end L2

namespace L2
open PySem PySem.Spec PyProof.Rows

def MtM (X : Cx) (id : String) (r : V → List V → Hp → VK → Prop) : Prop :=
  ∀ (pins : List (Addr × Obj)) (s : Shared) (σ : St) (H : Hp) (x : V) (xs : List V) (v : Value) (us : List Value) (Q : VK), Inv X pins σ H s → RelV x v → Vals xs us → r x xs H Q →
    wpAny (model X.prog X.w) X.A (call (.builtin id) (v :: us)) (EP X pins σ Q) X.xe s

/-! ### lists of values -/
theorem Vals.one : ∀ {x : V} {us : List Value}, Vals [x] us → ∃ u, us = [u] ∧ RelV x u
  | _, _, .cons r .nil => ⟨_, rfl, r⟩
theorem Vals.zero : ∀ {us : List Value}, Vals [] us → us = []
  | _, .nil => rfl
theorem Vals.dropLast {xs : List V} {us : List Value} (h : Vals xs us) : Vals xs.dropLast us.dropLast := by
  induction h with
  | nil => exact .nil
  | cons r t ih =>
    cases t with
    | nil => exact .nil
    | cons q t' => exact .cons r ih
theorem Vals.reverse {xs : List V} {us : List Value} (h : Vals xs us) : Vals xs.reverse us.reverse := by
  induction h with
  | nil => exact .nil
  | cons r t ih => rw [List.reverse_cons, List.reverse_cons]; exact Vals.append ih (.cons r .nil)
theorem Vals.rep {xs : List V} {us : List Value} (h : Vals xs us) : ∀ k : Nat, Vals (List.replicate k xs).flatten (List.replicate k us).flatten
  | 0 => .nil
  | k + 1 => by
    rw [List.replicate_succ, List.replicate_succ, List.flatten_cons, List.flatten_cons]
    exact Vals.append h (Vals.rep h k)
theorem foldl_rep (its : List Value) : ∀ (k : Nat) (acc : List Value),
    List.foldl (fun x1 x2 => x1 ++ x2) acc.toArray (List.replicate k its.toArray) = (acc ++ (List.replicate k its).flatten).toArray
  | 0, acc => by simp
  | k + 1, acc => by
    have e : acc.toArray ++ its.toArray = (acc ++ its).toArray := by simp
    have e2 : (acc ++ its) ++ (List.replicate k its).flatten = acc ++ (List.replicate (k + 1) its).flatten := by
      rw [List.replicate_succ, List.flatten_cons, List.append_assoc]
    rw [← e2, ← foldl_rep its k (acc ++ its), ← e, List.replicate_succ, List.foldl_cons]

section
variable {X : Cx} {pins : List (Addr × Obj)} {σ : St} {H : Hp} {s : Shared} {l b : Addr} {xs ys zs : List V}

/-! ### the two steps: a tracked list is rewritten, a new list is laid -/
theorem Inv.lset {its its' : List Value} {n : Nat} {f : Array Value → Array Value} {t' : Nat} (I : Inv X pins σ H s) (hH : H l = some (.lst xs))
    (e : s.heap.get? l = some { cls := .type "list", data := .seq its.toArray n }) (hf : f its.toArray = its'.toArray) (hv : Vals ys its') (hz : ys.length ≤ sizeLine) :
    Inv X pins σ (upd H l (.lst ys)) { s with heap := s.heap.update l (Obj.mapSeq f), toks := t' } := by
  have q := PySem.IsL.update e f
  rw [hf] at q
  refine I.write (x := l) (e := l) (by rw [hH]; exact trivial) (.inl rfl) (fun b' u hb hu => (Heap.get?_update_other s.heap (Obj.mapSeq f) (Ne.symm hb)).trans hu) ⟨_, q⟩ ?_
  exact ⟨hz, its', _, hv, q⟩
theorem Inv.lnew {its : List Value} {t' : Nat} (I : Inv X pins σ H s) (hv : Vals ys its) (hz : ys.length ≤ sizeLine) :
    Inv X pins σ (upd H s.heap.objs.size (.lst ys)) { s with heap := s.heap.push { cls := .type "list", data := .seq its.toArray }, toks := t' } :=
  I.laid (fun _ _ q => Heap.get?_push_of_some _ q) (Nat.le_refl _) ⟨hz, its, 0, hv, Heap.get?_push_size _ rfl⟩
theorem Inv.fresh (I : Inv X pins σ H s) : H s.heap.objs.size = none := I.hok.fresh (Nat.le_refl _)
theorem Inv.lstM (I : Inv X pins σ H s) (hH : H l = some (.lst xs)) : xs.length ≤ sizeLine ∧ ∃ (its : List Value) (n : Nat), Vals xs its ∧ xs.length = its.length ∧ s.heap.get? l = some { cls := .type "list", data := .seq its.toArray n } := by
  obtain ⟨z, its, n, r, e⟩ := I.hok l _ hH
  exact ⟨z, its, n, r, r.length, e⟩

theorem notLongL {n : Nat} (h : n ≤ sizeLine) : Builtin.List.listTooLong n = false := by
  unfold Builtin.List.listTooLong
  exact decide_eq_false (by omega)
end

section
variable {X : Cx}

/-! ### methods -/
def rAppend : V → List V → Hp → VK → Prop := fun x vs H Q => ∃ l xs y, x = .ref l ∧ vs = [y] ∧ H l = some (.lst xs) ∧ xs.length < sizeLine ∧ Q .non (upd H l (.lst (xs ++ [y])))
theorem mt_append : MtM X "list.append" rAppend := by
  intro pins s σ H x vs v us Q I rx rv h
  obtain ⟨l, xs, y, rfl, rfl, hH, hz, q⟩ := h
  cases rx
  obtain ⟨u, rfl, ru⟩ := rv.one
  obtain ⟨z, its, n, r, hl, e⟩ := I.lstM hH
  refine call_meets F.slot_list_append ⟨_, e, rfl⟩ F.entry_list_append (F.args_list_append_2 _ _) (PySem.list_append l its.toArray n u (by rw [List.size_toArray]; omega)) ⟨e, ?_⟩
  refine ⟨.non, _, I.lset (its' := its ++ [u]) hH e (by simp) (r.append (.cons ru .nil)) ?_, rfl, q⟩
  rw [List.length_append, List.length_singleton]
  omega

def rExtend : V → List V → Hp → VK → Prop := fun x vs H Q => ∃ l b xs zs, x = .ref l ∧ vs = [.ref b] ∧ H l = some (.lst xs) ∧ H b = some (.lst zs) ∧ xs.length + zs.length ≤ sizeLine ∧ Q .non (upd H l (.lst (xs ++ zs)))
def rPop : V → List V → Hp → VK → Prop := fun x vs H Q => ∃ l xs y, x = .ref l ∧ vs = [] ∧ H l = some (.lst xs) ∧ xs[xs.length - 1]? = some y ∧ Q y (upd H l (.lst xs.dropLast))
def rClear : V → List V → Hp → VK → Prop := fun x vs H Q => ∃ l xs, x = .ref l ∧ vs = [] ∧ H l = some (.lst xs) ∧ Q .non (upd H l (.lst []))
/-! ### list + list, list += list, list * int -/
def rCat : R2 := fun x y H Q => ∃ l b xs zs, x = .ref l ∧ y = .ref b ∧ H l = some (.lst xs) ∧ H b = some (.lst zs) ∧ xs.length + zs.length ≤ sizeLine ∧ ∀ p, H p = none → Q (.ref p) (upd H p (.lst (xs ++ zs)))
theorem op_cat : OpR X (binaryOp .Add) rCat := by
  intro pins s σ H x y v u Q I rx ry h
  obtain ⟨l, b, xs, zs, rfl, rfl, hH, hB, hz, q⟩ := h
  cases rx
  cases ry
  obtain ⟨z, its, n, r, hl, e⟩ := I.lstM hH
  obtain ⟨z2, its2, n2, r2, hl2, e2⟩ := I.lstM hB
  refine PySem.P.add_list e e2 ?_ (by rw [List.size_toArray, List.size_toArray]; omega)
  have ea : its.toArray ++ its2.toArray = (its ++ its2).toArray := by simp
  rw [ea]
  exact ⟨.ref _, _, I.lnew (t' := s.toks) (r.append r2) (by rw [List.length_append]; omega), rfl, q _ I.fresh⟩
/-- a list times an int (a negative one is nothing) -/
def rRep : R2 := fun x y H Q => ∃ l k xs, x = .ref l ∧ y = .int k ∧ H l = some (.lst xs) ∧ -(2 ^ 63) ≤ k ∧ k < 2 ^ 63 ∧ xs.length * k.toNat ≤ sizeLine ∧
  ∀ p, H p = none → Q (.ref p) (upd H p (.lst (List.replicate k.toNat xs).flatten))
theorem len_rep {α : Type} (xs : List α) (k : Nat) : (List.replicate k xs).flatten.length = k * xs.length := by
  induction k with
  | zero => simp
  | succ k ih => rw [List.replicate_succ, List.flatten_cons, List.length_append, ih, Nat.succ_mul, Nat.add_comm]
theorem op_rep : OpR X (binaryOp .Mult) rRep := by
  intro pins s σ H x y v u Q I rx ry h
  obtain ⟨l, k, xs, rfl, rfl, hH, h1, h2, hz, q⟩ := h
  cases rx
  obtain ⟨t, rfl⟩ := ry
  obtain ⟨z, its, n, r, hl, e⟩ := I.lstM hH
  have hlen : its.toArray.size * k.toNat ≤ sizeLine := by rw [List.size_toArray, ← hl]; exact hz
  have hcap : ¬ its.toArray.size * k.toNat > (2 ^ 63 - 1) / 8 := by
    have : (sizeLine : Nat) ≤ (2 ^ 63 - 1) / 8 := by decide
    omega
  have hfit : ¬ (!Builtin.List.listFitsIndex k) = true := by
    rw [fitsIndex_both h1 h2]
    exact Bool.false_ne_true
  have hlong : ¬ Builtin.List.listTooLong (its.toArray.size * k.toNat) = true := by
    rw [notLongL hlen]
    exact Bool.false_ne_true
  have hnew : List.foldl (fun x1 x2 => x1 ++ x2) #[] (List.replicate (if its.toArray.isEmpty = true then 0 else k.toNat) its.toArray) = (List.replicate k.toNat its).flatten.toArray := by
    have f0 : ∀ m : Nat, List.foldl (fun x1 x2 => x1 ++ x2) #[] (List.replicate m its.toArray) = (List.replicate m its).flatten.toArray := fun m => by
      have := foldl_rep its m []
      rw [List.nil_append] at this
      exact this
    rw [f0]
    cases its with
    | nil => simp
    | cons a r' => rw [if_neg (by simp)]
  refine wpAny_binaryOp_repeat_ref (T := "list") (U := "int") (by decide) ⟨_, e, rfl⟩ (fun s' => typeIs_int s' k t) noFill_list_mul F.fills_int_mul F.slot_int_rmul repeat_list F.slot_int_index.lookup
    (call_meets F.slot_int_rmul (typeIs_int s k t) F.entry_int_rmul (F.args_int_rmul_2 _ _) (int___rmul___int_list k t l its.toArray n)
      ⟨e, rfl, ⟨_, e, rfl⟩, call_meets F.slot_list_mul ⟨_, e, rfl⟩ F.entry_list_mul (F.args_list_mul_2 _ _) (AutoListH.list___mul___list_int_3 l its.toArray n k t hfit hcap hlong) ⟨e, ?_⟩⟩)
  rw [hnew]
  exact ⟨.ref _, _, I.lnew (t' := s.toks) (r.rep k.toNat) (by rw [len_rep, Nat.mul_comm]; exact hz), rfl, q _ I.fresh⟩

end

section
variable {prog : Program} {w : World} {A : Around} {E : Value → Shared → Prop} {s : Shared}
set_option maxRecDepth 100000 in
end

section
variable {X : Cx}
end
end L2

namespace Att
open PySem PySem.W PySem.Calls PyProof.Rows

/-! ### the script -/
theorem ints_of_wellAll {P : Params} {h : Heap} : ∀ (ns : List Int) (vs : List Value), WellAll P h vs (ns.map WData.int) → IntsAre vs ns := by
  intro ns
  induction ns with
  | nil =>
    intro vs w
    rw [List.map_nil] at w
    cases w
    exact .nil
  | cons n ns ih =>
    intro vs w
    rw [List.map_cons] at w
    cases w with
    | cons a b =>
      cases a
      exact .cons _ _ (ih _ b)

theorem script_of {l : OpenLaw} {n : Nat} (hn : l.most = some n) {P : Params} {h : Heap} {args : List WData} {vals : List Value}
    (hpre : l.row.toRowW.claim.pre args = true) (hwl : WellAll P h vals args) :
    ∃ a vs ns, vals = [Value.ref a] ∧ args = [WData.list (ns.map WData.int)] ∧ h.get? a = some { cls := .type "list", data := .seq vs.toArray } ∧ IntsAre vs ns ∧ ns.length ≤ n := by
  have hsh : WShape.hasAll [] args [.list .int] = true := (pre_splitW hpre).1
  have hc : l.pre.holds [] { args := args } = true := (pre_splitW hpre).2
  obtain ⟨d, r, rfl, h1, h2⟩ := hasAllW_cons hsh
  obtain rfl := hasAllW_nil h2
  obtain ⟨xs, rfl, h3⟩ := hasW_list h1
  obtain ⟨ns, rfl⟩ := items_int h3
  have hlen : ns.length ≤ n := by
    unfold OpenLaw.pre at hc
    have h4 : (WTm.not (.lt (.lit (.int (n : Int))) (.len (.arg 0)))).holds [] { args := [.list (ns.map .int)] } = true := by
      have h4 := (holds_andW hc).1
      rw [hn] at h4
      exact h4
    have h5 := condW_of h4 (w_not (w_lt w_lit (w_len_list (w_arg rfl))))
    rw [List.length_map] at h5
    refine Nat.le_of_not_lt fun q => ?_
    have q' : (n : Int) < ((ns.length : Nat) : Int) := by omega
    first
      | (rw [decide_eq_true q'] at h5; exact absurd h5 (by decide))
      | (simp at h5; omega)
  cases hwl with
  | cons w1 w2 =>
    cases w2
    cases w1 with
    | list ho hall => exact ⟨_, _, ns, rfl, rfl, ho, ints_of_wellAll ns _ hall, hlen⟩

theorem post_true (l : OpenLaw) (args : List WData) : l.row.toRowW.claim.post args (.bool true) args = true :=
  postW_of (r := l.row.toRowW) (X := (true == true))
    (show WShape.has [] (.bool true) .bool = true by first | rfl | decide | simp [WShape.has, WShape.arms, WShape.armsAll])
    (show (WTm.eq .res (.lit (.bool true))).value [] { args := args, res := some (.bool true), after := args } = some (.bool (true == true)) from w_eq_bool (w_res rfl) w_lit) rfl

/-- the same from a codeAny of the CALL (for a layer whose function contracts speak of calls) -/
theorem attach_call {l : OpenLaw} {n : Nat} {q : Program} {loose : List Str} {XP : (Str → Option Value) → Heap → Prop} {YP : World → Heap → Prop} {d : DefRec}
    (hn : l.most = some n) (hdf : d.params.defaults = [])
    (call : ∀ (w : World) (s₀ s₁ : Shared) (mg mb : Str → Option Value) (fa : Addr) (o : Obj) (pm cd doc : Value) (a : Addr) (vs : List Value) (ns : List Int),
      Ground q loose [] XP w s₀ mg mb s₁.heap → YP w s₁.heap →
      s₁.heap.get? fa = some o → o.data = .func (docDef d.name d.params d.body d.scope pm cd doc) → s₁.heap.CodeRec cd d.name → mg d.name = some (.ref fa) →
      s₁.heap.get? a = some { cls := .type "list", data := .seq vs.toArray } → IntsAre vs ns → ns.length ≤ n → s₁.gens = #[] →
      codeAny (model l.prog w) callerA (.call (.ref fa) ⟨[.ref a], []⟩) (fun r s' => r = .ok (.ret (.bool true)) ∧ OldK s₁.heap s'.heap ∧ s'.os = s₁.os ∧ AllBare s'.gens) s₁) :
    WalkO q loose XP YP l.row.toRowW d [] (fun f vs => PySem.call f vs) := by
  intro w s₀ s₁ mg mb G Y fa o pm cd doc dV kV ho hd hcd hD hmg hg args vals as hpre hlay hrd hwl hlo
  obtain rfl : dV = .none := Dflts.none hD hdf
  obtain rfl : kV = .none := Dflts.noKw hD
  obtain ⟨a, vs, ns, rfl, rfl, hobj, hints, hlen⟩ := script_of hn hpre hwl
  refine enter_call (codeAny_mono (call w s₀ s₁ mg mb fa o pm cd doc a vs ns G Y ho (fd_plain hd) hcd hmg hobj hints hlen hg) fun r s' hq => ?_)
  obtain ⟨rfl, h2, h3, h4⟩ := hq
  exact ⟨.inl ⟨.bool true, .bool true, [], rfl, fun _ => rfl, .bool true, post_true l _, fun _ => ⟨List.Pairwise.nil, fun _ hm => (nomatch hm)⟩⟩, h2, h3, h4⟩

section
variable {prog : Program} {w : World} {A : Around} {E : Value → Shared → Prop} {s : Shared} {K : Frag}

end
end Att

namespace L2
open PySem PySem.Spec PyProof.Rows

theorem vals_ints : ∀ {vs : List Value} {ns : List Int}, IntsAre vs ns → Vals (ns.map V.int) vs
  | _, _, .nil => .nil
  | _, _, .cons n t h => .cons ⟨t, rfl⟩ (vals_ints h)

/-- nothing is tracked but the script, known to the object (or it is an object of the module) -/
def Only (H : Hp) : Prop := ∀ b, H b = none ∨ ∃ o xs, H b = some (.frz o (.lst xs))

/-- THE HEAD: the law's promise, at the heap behind the top. F, the promise of the law's def, may use that base is part of the heap (so K.In base, base.Ns mainGlobals mg stand in Mod) -/
theorem law_call {P : Program} {w : World} {K : PySem.W.Frag} {mg mb : Str → Option Value} {CX : CXT} {k : Nat} {fa a : Addr} {fd : FuncData} {x : Str} {sp : Sp} {s₁ : Shared} {vs : List Value} {ns : List Int}
    (KX : K.In s₁.heap) (hns : s₁.heap.Ns mainGlobals mg) (hb : s₁.heap.Ns builtinsNs mb) (hbb : ∀ x : Str, x ≠ "__name__" → mb x = bootBuiltins x) (hlim : s₁.heap.NoLimit) (hg : s₁.gens = #[])
    (ha : s₁.heap.get? a = some { cls := .type "list", data := .seq vs.toArray }) (hi : IntsAre vs ns) (hl : ns.length ≤ sizeLine) (hr : Room k callerA)
    (F : ∀ base : Heap, K.In base → base.Ns mainGlobals mg → FnOk P w K mg base CX k fa fd [x] sp) (hbind : ∀ (s : Shared) (u : Value), BindsTo s fd ⟨[u], []⟩ [(x, u)])
    (hsp : ∀ H : Hp, Only H → SqL K H a (ns.map V.int) → sp [.ref a] H (fun v _ => v = .bl true) fun _ _ _ => False)
    (hCX : ∀ H e s', CX [] H s₁ (fun _ _ _ => False) e s' → False) :
    codeAny (model P w) callerA (.call (.ref fa) ⟨[.ref a], []⟩) (fun r s' => r = .ok (.ret (.bool true)) ∧ OldK s₁.heap s'.heap ∧ s'.os = s₁.os ∧ AllBare s'.gens) s₁ := by
  have rv := vals_ints hi
  have lenV := hi.length
  -- from an abstract heap in which nothing but the script may be tracked
  have core : ∀ H : Hp, Only H → SqL K H a (ns.map V.int) → HOk P w H s₁.heap → (∀ b, H b ≠ none → b = a) → (H a ≠ none → K.lookup a = none) →
      codeAny (model P w) callerA (.call (.ref fa) ⟨[.ref a], []⟩) (fun r s' => r = .ok (.ret (.bool true)) ∧ OldK s₁.heap s'.heap ∧ s'.os = s₁.os ∧ AllBare s'.gens) s₁ := by
    intro H hO hS hok hA hK
    have base_of : ∀ {b : Addr} {o : Obj}, s₁.heap.get? b = some o → H b = none → (hidT s₁.heap H).get? b = some o := fun e n => hidT_get e n
    have noA : ∀ {b : Addr} {o : Obj} {es : Array DictEntry} {ep : Nat}, s₁.heap.get? b = some o → o.data = .dict es ep → H b = none := fun {b o es ep} e d => by
      cases q : H b with
      | none => rfl
      | some u =>
        have e' : b = a := hA b (by rw [q]; simp)
        subst e'
        rw [ha] at e; cases e
        have d' : Data.seq vs.toArray _ = Data.dict es ep := d
        cases d'
    have nsK : ∀ {b : Addr} {m : Str → Option Value}, s₁.heap.Ns b m → (hidT s₁.heap H).Ns b m := fun {b m} ⟨o, es, ep, e, d, r⟩ => ⟨o, es, ep, base_of e (noA e d), d, r⟩
    have hKb : K.In (hidT s₁.heap H) := fun b o e => base_of (KX b o e) (by
      cases q : H b with
      | none => rfl
      | some u =>
        have e' : b = a := hA b (by rw [q]; simp)
        subst e'
        rw [hK (by rw [q]; simp)] at e; cases e)
    have hM : Mod K mg (hidT s₁.heap H) := ⟨hKb, nsK hns, ⟨mb, nsK hb, hbb⟩, let ⟨mc, h1, h2⟩ := hlim; ⟨mc, nsK h1, h2⟩⟩
    have e0 : Env0 P w K mg (hidT s₁.heap H) callerA [] s₁ H := ⟨rfl, hM, fun b o e => of_hidT e, Nat.le_of_eq (hidT_size _ _), trivial, fun b hb => absurd (show b ∈ ([] : List Addr) from hb) (by simp), hok, .of_eq hg⟩
    refine codeAny_mono ((F _ hKb (nsK hns)).run callerA [] s₁ H ⟨[.ref a], []⟩ [.ref a] [.ref a] _ _ hr e0 (hbind s₁ (.ref a)) (.cons rfl .nil) (hsp H hO hS)) fun r s' h => ?_
    cases r with
    | error e => exact (hCX H e s' h).elim
    | ok fl =>
      cases fl with
      | next => exact False.elim h
      | brk => exact False.elim h
      | cont => exact False.elim h
      | ret u =>
        obtain ⟨v, H', os, bare, un, hok', r', q⟩ := h
        have q' : v = .bl true := q
        subst q'
        obtain rfl : u = Value.bool true := r'
        refine ⟨rfl, OldK.of_keep fun b o e => ?_, os, bare⟩
        cases q : H b with
        | none => exact un.keep b o e q (by intro z; exact absurd (show b ∈ ([] : List Addr) from z) (by simp)) (by simp)
        | some u =>
          rcases hO b with z | ⟨ob, xs, z⟩
          · rw [q] at z; cases z
          · have z2 := un.frzs b ob _ z
            obtain ⟨e1, _⟩ := hok b _ z
            obtain ⟨e2, _⟩ := hok' b _ z2
            rw [e] at e1; cases e1
            exact e2
  cases hk : K.lookup a with
  | some o =>
    -- the script is one of the module's own objects
    have e := KX a o hk
    rw [ha] at e
    cases e
    refine core (fun _ => none) (fun _ => .inl rfl) (.inr ⟨_, vs.toArray, _, hk, rfl, rfl, rfl, by rw [List.size_toArray, lenV]; exact hl, by simpa using rv⟩) (fun b u z => by have z' : (none : Option HO) = some u := z; cases z') (fun b z => absurd rfl z) fun z => absurd rfl z
  | none =>
    refine core (fun b => if b = a then some (.frz { cls := .type "list", data := .seq vs.toArray } (.lst (ns.map V.int))) else none) (fun b => ?_) (.inl (.inr ⟨{ cls := .type "list", data := .seq vs.toArray }, if_pos rfl⟩)) (fun b u z => ?_) (fun b z => ?_) fun _ => hk
    · by_cases hb : b = a
      · exact .inr ⟨_, _, if_pos hb⟩
      · exact .inl (if_neg hb)
    · by_cases hb : b = a
      · have z' := (if_pos hb).symm.trans z
        cases z'
        subst hb
        exact ⟨ha, by rw [List.length_map]; exact hl, vs, _, rv, ha⟩
      · have z' := (if_neg hb).symm.trans z
        cases z'
    · by_cases hb : b = a
      · exact hb
      · exact absurd (if_neg hb) z
end L2

namespace L2
open PySem PySem.Spec PyProof.Rows

/-- the goal that k_head leaves (case hc), from the law's promise. F gives the function object fd (K's own) once, then the promise over every base -/
theorem walk_of {l : PySem.W.OpenLaw} {n k : Nat} {q : Program} {loose : List Str} {XP : (Str → Option Value) → Heap → Prop} {YP : World → Heap → Prop} {d : DefRec} {K : Params → PySem.W.Frag} {CX : World → CXT} {sp : World → Sp} {x : Str}
    (hn : l.most = some n) (hn2 : n ≤ sizeLine) (hdf : d.params.defaults = []) (hr : Room k callerA)
    (hY : ∀ (w : World) (h : Heap), YP w h → (K w.params).In h)
    (F : ∀ (w : World) (mg : Str → Option Value) (fa : Addr) (h : Heap), (K w.params).In h → h.Ns mainGlobals mg → mg d.name = some (.ref fa) →
      ∃ fd : FuncData, (∀ (s : Shared) (u : Value), BindsTo s fd ⟨[u], []⟩ [(x, u)]) ∧
        ∀ base : Heap, (K w.params).In base → base.Ns mainGlobals mg → FnOk l.prog w (K w.params) mg base (CX w) k fa fd [x] (sp w))
    (hsp : ∀ (w : World) (H : Hp) (a : Addr) (ns : List Int), ns.length ≤ n → Only H → SqL (K w.params) H a (ns.map V.int) → sp w [.ref a] H (fun v _ => v = .bl true) fun _ _ _ => False)
    (hCX : ∀ (w : World) (H : Hp) (s : Shared) (e : Value) (s' : Shared), CX w [] H s (fun _ _ _ => False) e s' → False) :
    PySem.W.WalkO q loose XP YP l.row.toRowW d [] (fun f vs => PySem.call f vs) := by
  refine Att.attach_call hn hdf fun w s₀ s₁ mg mb fa o pm cd doc a vs ns G Y ho hd hcd hmg hobj hints hlen hg => ?_
  have KX := hY w _ Y
  obtain ⟨fd, hb, hF⟩ := F w mg fa _ KX G.T.g hmg
  exact law_call KX G.T.g G.T.b G.T.builtins G.T.nolimit hg hobj hints (Nat.le_trans hlen hn2) hr hF hb (fun H hO hS => hsp w H a ns hlen hO hS) fun H e s' => hCX w H s₁ e s'
end L2

namespace L2
open PySem PySem.Spec PyProof.Rows

/-- the j-th statement of a class's body -/
def inClass (s : Stmt) (j : Nat) : Stmt := match s with
  | .ClassDef _ _ _ body _ _ _ _ _ _ _ => body.getD j (.Pass ⟨0, 0, 0, 0⟩)
  | _ => .Pass ⟨0, 0, 0, 0⟩
def defArgs (s : Stmt) : Arguments := match s with
  | .FunctionDef _ a _ _ _ _ _ _ _ _ => a
  | _ => { posonlyargs := [], args := [], vararg := none, kwonlyargs := [], kw_defaults := [], kwarg := none, defaults := [] }
def defBody (s : Stmt) : List Stmt := match s with
  | .FunctionDef _ _ b _ _ _ _ _ _ _ => b
  | _ => []
def defScope (s : Stmt) : Scope := match s with
  | .FunctionDef _ _ _ _ _ _ sc _ _ _ => sc
  | _ => { kind := .function, names := [], isGenerator := false, isCoroutine := false }

/-! ### no exception leaves a def -/
abbrev CX0 : CXT := fun _ _ _ _ _ _ => False
abbrev E0 : XK := fun _ _ _ => False
theorem pass0 {X : Cx} : Passes CX0 X E0 := fun _ _ _ _ _ _ _ h => h.elim

/-! ### a def (or method) of the text as it stands behind the top -/
structure Fun (K : PySem.W.Frag) (x qual : Str) (st : Stmt) (f : Addr) (fd : FuncData) : Prop where
  ex : ∃ (oc : Value) (od : Option Addr) (kV doc pm : Value) (an : Option Addr) (cdv ct : Value) (osl : Array (Option Value)),
    fd = PySem.W.fnOf x qual (defArgs st) (defBody st) (defScope st) .none kV doc pm an cdv ct ∧ K.lookup f = some ⟨oc, od, .func fd, osl⟩ ∧ PySem.W.codeIn K cdv qual = true
  kp : PySem.W.keepIn K (.ref f) = true
section
variable {P : Program} {w : World} {K : PySem.W.Frag} {mg : Str → Option Value} {base : Heap}
/-- THE RULE for a def: its body as a term of rules, and the reading of that term -/
theorem Fun.ok {x qual : Str} {st : Stmt} {f : Addr} {fd : FuncData} {N ps : List Str} {k : Nat} {sp : Sp} (F : Fun K x qual st f fd) (S : FnScope N ps (defScope st)) (len : ∀ vs H Q E, sp vs H Q E → vs.length = ps.length)
    (hbody : ∀ (cdv : Value) (A : Around) (outer : List Env) (s : Shared) (H : Hp) (vs : List V) (Q : VK) (E : XK), Room k (A.deeper (envOfC qual (defScope st) s.heap.objs.size f cdv)) → sp vs H Q E →
      ∃ t, PSs (cxOf CX0 P w K mg base N qual (defScope st) f cdv A outer s H E).nox (defBody st) t ∧ t { nx := fun _ H' => Q .non H', rt := Q } (start N vs) H) : FnOk P w K mg base CX0 (k + 1) f fd ps sp := by
  obtain ⟨oc, od, kV, doc, pm, an, cdv, ct, osl, rfl, lk, hcd⟩ := F.ex
  refine fn_of lk hcd S len fun A outer s H vs Q E hr hsp => ?_
  obtain ⟨t, h, q⟩ := hbody cdv A outer s H vs Q E hr hsp
  exact ⟨t, h.nox, q⟩
/-- how its arguments bind (no defaults): h is «fun _ _ _ _ _ _ us hl => match us, hl with | [_, _], _ => rfl», one _ a parameter -/
theorem Fun.binds {x qual : Str} {st : Stmt} {f : Addr} {fd : FuncData} {ps : List Str} (F : Fun K x qual st f fd)
    (h : ∀ (kV doc pm : Value) (an : Option Addr) (cdv ct : Value) (us : List Value), us.length = ps.length → bindArgs (PySem.W.fnOf x qual (defArgs st) (defBody st) (defScope st) .none kV doc pm an cdv ct) ⟨us, []⟩ = pure (ps.zip us)) : Binds K fd ps [] := by
  obtain ⟨oc, od, kV, doc, pm, an, cdv, ct, osl, rfl, lk, hcd⟩ := F.ex
  exact .all (h kV doc pm an cdv ct)
theorem fun_mk {x qual : Str} {st : Stmt} {f : Addr} {oc : Value} {od an : Option Addr} {osl : Array (Option Value)} {kV doc pm cdv ct : Value} (l : K.lookup f = some ⟨oc, od, .func (PySem.W.fnOf x qual (defArgs st) (defBody st) (defScope st) .none kV doc pm an cdv ct), osl⟩)
    (c : PySem.W.codeIn K cdv qual = true) (k : PySem.W.keepIn K (.ref f) = true) : Fun K x qual st f (PySem.W.fnOf x qual (defArgs st) (defBody st) (defScope st) .none kV doc pm an cdv ct) := ⟨⟨oc, od, kV, doc, pm, an, cdv, ct, osl, rfl, l, c⟩, k⟩
end
theorem small1000 {n : Nat} (h : n ≤ 1000) : n < sizeLine := Nat.lt_of_le_of_lt h (by decide)

section
variable {X : Cx}
theorem pv (i : Nat) {x : Str} {pos : Pos} (hN : X.N[i]? = some x := by rfl) (hv : Vis X.env.scope x := by first | exact Or.inl rfl | exact Or.inr (Or.inl rfl) | exact Or.inr (Or.inr rfl)) (hd : (x == ("__debug__" : Str)) = false := by decide)
    (hcd : (x == ("__classdict__" : Str)) = false := by decide) : PE X (.Name x pos) (tVar i) := pe_var hN hv hd hcd
end

/-! ### tests -/
theorem iteF {A B : Prop} (h : B) : if false = true then A else B := by
  rw [if_neg Bool.false_ne_true]
  exact h
theorem iteT {A B : Prop} (h : A) : if true = true then A else B := by
  rw [if_pos rfl]
  exact h
/-- all that was tracked is as it was -/
def Same (H H' : Hp) : Prop := ∀ b o, H b = some o → H' b = some o
theorem Same.refl (H : Hp) : Same H H := fun _ _ h => h
theorem Same.trans {H H1 H2 : Hp} (a : Same H H1) (b : Same H1 H2) : Same H H2 := fun c o h => b c o (a c o h)
theorem Same.free {H H' : Hp} (e : Same H H') {l : Addr} (h : H' l = Option.none) : H l = Option.none := by
  cases q : H l with
  | none => rfl
  | some o =>
    rw [e l o q] at h
    cases h
theorem Same.seq {K : PySem.W.Frag} {H H' : Hp} {a : Addr} {xs : List V} (e : Same H H') (h : SqL K H a xs) : SqL K H' a xs := by
  rcases h with (h | ⟨o, h⟩) | h
  · exact .inl (.inl (e _ _ h))
  · exact .inl (.inr ⟨o, e _ _ h⟩)
  · exact .inr h

end L2

set_option maxHeartbeats 4000000
namespace L2
open PySem PySem.Spec PyProof.Rows

/-! ### a list comprehension of one clause -/
def cloF (cells : List (Str × Addr)) : List (Str × NameKind) → List (Str × Addr) → List (Str × Addr)
  | [], acc => acc
  | (n, k) :: r, acc => if (k == NameKind.free) = true then (match cells.lookup n with | some c => cloF cells r ((n, c) :: acc) | none => cloF cells r acc) else cloF cells r acc
theorem closureFor_clo {scope : Scope} {env : Env} (h : ∀ y ∈ scope.names, y.2 = .free → ∃ c, env.cells.lookup y.1 = some c) : closureFor scope env = pure (cloF env.cells scope.names []) := by
  have key : ∀ (l : List (Str × NameKind)) (acc : List (Str × Addr)), (∀ y ∈ l, y.2 = .free → ∃ c, env.cells.lookup y.1 = some c) →
      (forIn l acc fun x s => if (x.snd == NameKind.free) = true then do
              let c ← cellOf env x.fst
              pure (ForInStep.yield ((x.fst, c) :: s))
            else pure (ForInStep.yield s)) = (pure (cloF env.cells l acc) : Sem _) := by
    intro l
    induction l with
    | nil => intro acc _; rfl
    | cons y r ih =>
      intro acc hy
      obtain ⟨n, k⟩ := y
      have ih' := fun a => ih a fun z hz => hy z (List.mem_cons_of_mem _ hz)
      by_cases hk : (k == NameKind.free) = true
      · obtain ⟨c, hc⟩ := hy (n, k) List.mem_cons_self (by simpa using hk)
        have hc' : env.cells.lookup n = some c := hc
        simp only [List.forIn_cons, hk, if_true, cellOf, hc', pure_bind, cloF]
        exact ih' _
      · simp only [List.forIn_cons, hk, if_false, pure_bind, cloF]
        exact ih' _
  simp only [closureFor]
  rw [key _ _ h]
  rfl
theorem cloF_of {cells : List (Str × Addr)} : ∀ {l : List (Str × NameKind)} {acc : List (Str × Addr)} {x : Str} {c : Addr}, (∀ x c, acc.lookup x = some c → cells.lookup x = some c) → (cloF cells l acc).lookup x = some c → cells.lookup x = some c
  | [], acc, x, c, h, e => h x c e
  | (n, k) :: r, acc, x, c, h, e => by
    unfold cloF at e
    split at e
    · split at e
      · rename_i d hd
        refine cloF_of (l := r) (acc := (n, d) :: acc) (fun y b hy => ?_) e
        rw [List.lookup_cons] at hy
        split at hy
        · rename_i z
          have zn : y = n := by simpa using z
          cases hy
          rw [zn]; exact hd
        · exact h y b hy
      · exact cloF_of h e
    · exact cloF_of h e
theorem cloF_acc {cells : List (Str × Addr)} {x : Str} : ∀ {l : List (Str × NameKind)} {acc : List (Str × Addr)}, (∃ c, acc.lookup x = some c) → ∃ c, (cloF cells l acc).lookup x = some c
  | [], acc, h => h
  | (n, k) :: r, acc, h => by
    unfold cloF
    split
    · split
      · rename_i d hd
        refine cloF_acc (l := r) ?_
        rw [List.lookup_cons]
        split
        · exact ⟨_, rfl⟩
        · exact h
      · exact cloF_acc h
    · exact cloF_acc h
theorem cloF_has {cells : List (Str × Addr)} {x : Str} : ∀ {l : List (Str × NameKind)} {acc : List (Str × Addr)}, l.lookup x = some .free → (∃ c, cells.lookup x = some c) → ∃ c, (cloF cells l acc).lookup x = some c
  | [], acc, h, _ => by simp at h
  | (n, k) :: r, acc, h, hc => by
    rw [List.lookup_cons] at h
    unfold cloF
    split at h
    · rename_i z
      have zn : x = n := by simpa using z
      cases h
      subst zn
      obtain ⟨c, hc⟩ := hc
      rw [if_pos (by decide), hc]
      refine cloF_acc ⟨c, ?_⟩
      rw [List.lookup_cons]
      simp
    · split
      · split
        · exact cloF_has h hc
        · exact cloF_has h hc
      · exact cloF_has h hc
theorem lookup_relabel_free {env : Env} : ∀ {names : List (Str × NameKind)} {x : Str}, names.lookup x = some .free →
    (names.map fun (n, k) => if (k == NameKind.free && env.scope.kind == .function && env.kindOf n == some .cell) then (n, NameKind.cell) else (n, k)).lookup x = some .cell ∨
    (names.map fun (n, k) => if (k == NameKind.free && env.scope.kind == .function && env.kindOf n == some .cell) then (n, NameKind.cell) else (n, k)).lookup x = some .free
  | [], _, h => by simp at h
  | (n, k) :: r, x, h => by
    have ih := @lookup_relabel_free env r x
    show List.lookup x ((if (k == NameKind.free && env.scope.kind == .function && env.kindOf n == some .cell) = true then (n, NameKind.cell) else (n, k)) :: _) = _ ∨ List.lookup x ((if (k == NameKind.free && env.scope.kind == .function && env.kindOf n == some .cell) = true then (n, NameKind.cell) else (n, k)) :: _) = _
    cases hx : x == n with
    | true =>
      simp only [List.lookup_cons, hx] at h
      cases h
      by_cases hc : (NameKind.free == NameKind.free && env.scope.kind == .function && env.kindOf n == some .cell) = true
      · rw [if_pos hc]; left; simp only [List.lookup_cons, hx]
      · rw [if_neg hc]; right; simp only [List.lookup_cons, hx]
    | false =>
      simp only [List.lookup_cons, hx] at h
      by_cases hc : (k == NameKind.free && env.scope.kind == .function && env.kindOf n == some .cell) = true
      · rw [if_pos hc]; simp only [List.lookup_cons, hx]; exact ih h
      · rw [if_neg hc]; simp only [List.lookup_cons, hx]; exact ih h
theorem lookup_relabel_back {env : Env} : ∀ {names : List (Str × NameKind)} {x : Str}, (∀ y ∈ names, y.2 ≠ NameKind.cell) →
    ((names.map fun (n, k) => if (k == NameKind.free && env.scope.kind == .function && env.kindOf n == some .cell) then (n, NameKind.cell) else (n, k)).lookup x = some .cell ∨
    (names.map fun (n, k) => if (k == NameKind.free && env.scope.kind == .function && env.kindOf n == some .cell) then (n, NameKind.cell) else (n, k)).lookup x = some .free) → names.lookup x = some .free
  | [], _, _, h => by simp at h
  | (n, k) :: r, x, hn, h => by
    have ih := @lookup_relabel_back env r x fun y hy => hn y (List.mem_cons_of_mem _ hy)
    have h' : List.lookup x ((if (k == NameKind.free && env.scope.kind == .function && env.kindOf n == some .cell) = true then (n, NameKind.cell) else (n, k)) :: (r.map fun (n, k) => if (k == NameKind.free && env.scope.kind == .function && env.kindOf n == some .cell) then (n, NameKind.cell) else (n, k))) = some .cell ∨ List.lookup x ((if (k == NameKind.free && env.scope.kind == .function && env.kindOf n == some .cell) = true then (n, NameKind.cell) else (n, k)) :: (r.map fun (n, k) => if (k == NameKind.free && env.scope.kind == .function && env.kindOf n == some .cell) then (n, NameKind.cell) else (n, k))) = some .free := h
    cases hx : x == n with
    | true =>
      simp only [List.lookup_cons, hx]
      by_cases hc : (k == NameKind.free && env.scope.kind == .function && env.kindOf n == some .cell) = true
      · have hk : k = NameKind.free := by
          rw [Bool.and_eq_true, Bool.and_eq_true] at hc
          simpa using hc.1.1
        rw [hk]
      · rw [if_neg hc] at h'
        simp only [List.lookup_cons, hx] at h'
        rcases h' with h' | h'
        · exact absurd (Option.some.inj h') (hn (n, k) List.mem_cons_self)
        · exact h'
    | false =>
      simp only [List.lookup_cons, hx]
      by_cases hc : (k == NameKind.free && env.scope.kind == .function && env.kindOf n == some .cell) = true
      · rw [if_pos hc] at h'; simp only [List.lookup_cons, hx] at h'; exact ih h'
      · rw [if_neg hc] at h'; simp only [List.lookup_cons, hx] at h'; exact ih h'

/-- the block's context -/
def blk (X : Cx) (Nc : List Str) (scope : Scope) (C : Addr) (s₀ : Shared) (H₀ : Hp) (ex : List Addr) : Cx :=
  { X with N := Nc, s₀ := s₀, H₀ := H₀, env := compEnvC scope (cloF X.env.cells scope.names []) C X.env, outer := X.stack, ex := ex, fn := fun _ => false, pn := [], xe := fun _ _ => False }
/-- the block's names: its own (none), or the slot of the outer one -/
def σof (cm : List (Option Nat)) (σ : St) : St := cm.map fun o => match o with
  | none => none
  | some i => (σ[i]?).getD none
/-- σ' knows no less than σ -/
def Wk (σ σ' : St) : Prop := σ.length = σ'.length ∧ ∀ (i : Nat) (v : V), σ[i]? = some (some v) → σ'[i]? = some (some v)
def tComp (wi : TI) (g : TG) (tc : TT) (te : TE) (cm : List (Option Nat)) : TE := fun σ H Q => wi σ H fun J H1 => ∃ W : Nat → Nat → List V → Hp → Prop, (∃ m, W 0 m [] H1) ∧ ∀ i m acc H, W i m acc H →
  (J.stop i H ∧ ∀ p, H p = none → Q (.ref p) (upd H p (.lst acc))) ∨
  (J.go i H ∧ acc.length < sizeLine ∧ ∀ x H', J.yld i H x H' → g x (σof cm σ) H' fun σ2 H2 => Wk (σof cm σ) σ2 ∧ tc σ2 H2 fun b H3 => if b = true then te σ2 H3 fun v H4 => ∃ m', m' < m ∧ W (i + 1) m' (acc ++ [v]) H4 else ∃ m', m' < m ∧ W (i + 1) m' acc H3)
/-- the tests of a clause -/
def PIf (X : Cx) (ifs : List Expr) (t : TT) : Prop :=
  ∀ (pins : List (Addr × Obj)) (s : Shared) (σ : St) (H : Hp) (Q : Bool → Hp → Prop), Inv X pins σ H s → t σ H Q →
    wpAny (model X.prog X.w) X.A (forIn ifs true fun c r => if r = true then do let ok ← isTrue c X.env (eval c X.env); pure (ForInStep.yield ok) else pure (ForInStep.yield r)) (TP X pins σ Q) X.xe s
def tYes : TT := fun _ H Q => Q true H
theorem pif_nil {X : Cx} : PIf X [] tYes := fun _ _ σ H _ I h => wpAny_pure ⟨H, I, h⟩
/-- a record of ours that was not tracked is tracked from here on -/
theorem Inv.track {X : Cx} {pins : List (Addr × Obj)} {σ : St} {H : Hp} {s : Shared} {D : Addr} {o : HO} (I : Inv X pins σ H s) (hn : H D = none) (h0 : X.s₀.heap.objs.size ≤ D) (hL : D ≠ X.env.locals)
    (hcl : ∀ x c, X.env.cells.lookup x = some c → c ≠ D) (hp : ∀ p ∈ X.pn ++ pins, p.1 ≠ D) (new : ObjOk X.prog X.w (upd H D o) s.heap D o) : Inv X pins σ (upd H D o) s := by
  have hb : ∀ b u, X.s₀.heap.get? b = some u → b ≠ D := fun b u e => Nat.ne_of_lt (Nat.lt_of_lt_of_le (Heap.lt_size e) h0)
  refine ⟨I.ok, I.os, I.bare, ⟨I.base.keep, I.base.slot, fun b u e n hx => ?_, I.base.there, fun b xs e => ?_, fun b u xs e => ?_, fun b ps e => ?_⟩, I.loc, I.cell, ?_, fun x c e => ?_, fun p hpp => ?_, fun b u e => ?_, I.len⟩
  · rw [upd_ne (hb b u e)]; exact I.base.free b u e n hx
  · have q := I.base.tups b xs e; rw [upd_ne (ne_of_none q hn)]; exact q
  · have q := I.base.frzs b u xs e; rw [upd_ne (ne_of_none q hn)]; exact q
  · obtain ⟨more, q⟩ := I.base.tbls b ps e; exact ⟨more, by rw [upd_ne (ne_of_none q hn)]; exact q⟩
  · rw [upd_ne (Ne.symm hL)]; exact I.free
  · rw [upd_ne (hcl x c e)]; exact I.freeC x c e
  · obtain ⟨a, b, c⟩ := I.pin p hpp
    exact ⟨a, by rw [upd_ne (hp p hpp)]; exact b, c⟩
  · by_cases hb : b = D
    · subst hb; rw [upd_same] at e; cases e; exact new
    · rw [upd_ne hb] at e
      exact (I.hok b u e).stay (fun c v _ q => q) (fun c q => by rw [upd_ne (ne_of_none q hn)]; exact q) fun c xs q => by rw [upd_ne (ne_of_none q hn)]; exact q

section
variable {X : Cx}
theorem pe_comp {tg iter elt : Expr} {ifs : List Expr} {scope : Scope} {pos : Pos} {Nc : List Str} {cm : List (Option Nat)} {wi : TI} {g : TG} {tc : TT} {te : TE}
    (hc : X.calm = true) (hi : PI X tg iter wi) (hkind : scope.kind = .function) (hcell : ∀ y ∈ scope.names, y.2 ≠ .cell) (hnames : ∀ y ∈ scope.names, y.2 = .local → scope.names.lookup y.1 = some .local)
    (hfree : ∀ y ∈ scope.names, y.2 = .free → X.env.kindOf y.1 = some .cell ∨ X.env.kindOf y.1 = some .free) (hlen : cm.length = Nc.length)
    (hcm : ∀ (j : Nat) (x : Str) (i : Nat), Nc[j]? = some x → cm[j]? = some (some i) → X.N[i]? = some x ∧ scope.names.lookup x = some .free ∧ (X.env.kindOf x = some .cell ∨ X.env.kindOf x = some .free))
    (hg : ∀ C s₀ H₀ ex, PG (blk X Nc scope C s₀ H₀ ex) tg g) (ht : ∀ C s₀ H₀ ex, PIf (blk X Nc scope C s₀ H₀ ex) ifs tc) (he : ∀ C s₀ H₀ ex, PE (blk X Nc scope C s₀ H₀ ex) elt te)
    (hs : ∀ x, foldedSetIterable iter X.env x = pure x := by intro _; rfl) : PE X (.ListComp elt [⟨tg, iter, ifs, 0⟩] scope pos) (tComp wi g tc te cm) := by
  intro pins s σ H Q I h
  rw [eval_ListComp]
  have hfr : ∀ y ∈ scope.names, y.2 = .free → ∃ c, X.env.cells.lookup y.1 = some c := fun y hy e => I.ok.has y.1 (hfree y hy e)
  refine wpAny_comprehension_free (use := none) rfl hs (closureFor_clo hfr) hkind hnames (thn (hi pins s σ H _ I h) fun v s1 h1 => thn h1 fun itv s2 h2 => ?_)
  obtain ⟨it, fp, tn, J, H2, e, I2, T, st2, f2, W, ⟨m0, w0⟩, turn⟩ := h2
  subst e
  refine wpAny_newObj_type (wpAny_newFunctionEnv hcell (by intro y hy; simp at hy) (fun h₁ hns₁ hsb₁ => ?_) hkind)
  dsimp only at hns₁ hsb₁ ⊢
  -- D: the new list; C: the block's names
  have hk3 : ∀ b u, s2.heap.get? b = some u → (s2.heap.push { cls := .type "list", dict := none, data := .seq ([] : List Value).toArray }).get? b = some u := fun b u q => Heap.get?_push_of_some _ q
  have I3 : Inv X pins σ H2 { s2 with heap := s2.heap.push { cls := .type "list", dict := none, data := .seq ([] : List Value).toArray }, toks := s2.toks } := I2.kept hk3
  have hD3 : (s2.heap.push { cls := .type "list", dict := none, data := .seq ([] : List Value).toArray }).get? s2.heap.objs.size = some { cls := .type "list", data := .seq ([] : List Value).toArray } := Heap.get?_push_size _ rfl
  have hCs : (s2.heap.push { cls := .type "list", dict := none, data := .seq ([] : List Value).toArray }).objs.size = s2.heap.objs.size + 1 := Heap.size_push _ _
  have hDn : H2 s2.heap.objs.size = none := I2.hok.fresh (Nat.le_refl _)
  have st3 : tn 0 (s2.heap.push { cls := .type "list", dict := none, data := .seq ([] : List Value).toArray }) := T.keep _ _ _ st2 fun b _ o q => hk3 b o q
  have fpD : ∀ b ∈ fp, b < s2.heap.objs.size := fun b hb => by
    obtain ⟨o, e, _⟩ := T.obj _ _ st2 b hb
    exact Heap.lt_size e
  have DX : FpOk X pins H2 s2.heap.objs.size := I2.fpOk (Nat.le_refl _) hDn
  generalize hs3 : s2.heap.push { cls := .type "list", dict := none, data := .seq ([] : List Value).toArray } = h3 at *
  generalize hDg : s2.heap.objs.size = D at *
  have exX : ∀ b ∈ D :: fp, FpOk X pins H2 b := fun b hb => by
    rcases List.mem_cons.mp hb with z | z
    · rw [z]; exact DX
    · exact f2 b z
  have exC : ∀ b ∈ D :: fp, b < h3.objs.size := fun b hb => by
    rcases List.mem_cons.mp hb with z | z
    · rw [z, hCs]; exact Nat.lt_succ_self _
    · rw [hCs]; exact Nat.lt_succ_of_lt (fpD b z)
  have exS : ∀ b ∈ D :: fp, b ∉ frs X.stack := fun b hb z => by
    obtain ⟨_, n1, n2, _⟩ := exX b hb
    rcases List.mem_cons.mp (I2.stkSub b z) with y | y
    · exact n1 y
    · exact n2 y
  have clo : ∀ x c, (cloF X.env.cells scope.names []).lookup x = some c → X.env.cells.lookup x = some c := fun x c e => cloF_of (acc := []) (fun _ _ z => by simp at z) e
  have keep1 : ∀ b u, h3.get? b = some u → h₁.get? b = some u := fun b u q =>
    (hsb₁.2 b (Nat.ne_of_lt (Heap.lt_size q))).trans (Heap.get?_push_of_some _ q)
  let s3 : Shared := { s2 with heap := h3 }
  let X' : Cx := blk X Nc scope h3.objs.size s3 H2 (D :: fp)
  have hX' : X' = blk X Nc scope h3.objs.size s3 H2 (D :: fp) := rfl
  have okX : X'.Ok := by
    refine ⟨I3.ok.mod, hkind, I3.ok.glob, I3.ok.blt, Nat.le_refl _, fun x y c e1 e2 => I3.ok.inj x y c (clo x c e1) (clo y c e2), fun x hx => ?_, fun x c e => (Bool.false_ne_true e).elim, I3.ok.hd, I3.ok.frames, .inl rfl, fun b hb => ⟨Nat.ne_of_lt (exC b hb), fun x c e => (exX b hb).2.2.2.2.1 x c (clo x c e)⟩,
      I3.bs, ?_, fun b o e hb => ?_, exS, I3.stack, I3.stkFree⟩
    · have hx' : scope.names.lookup x = some .free := lookup_relabel_back (env := X.env) hcell hx
      have hmem : (x, NameKind.free) ∈ scope.names := by
        have : ∀ (l : List (Str × NameKind)), l.lookup x = some .free → (x, NameKind.free) ∈ l := by
          intro l
          induction l with
          | nil => intro z; simp at z
          | cons a r ih =>
            obtain ⟨n, k⟩ := a
            intro z
            rw [List.lookup_cons] at z
            split at z
            · rename_i y
              have yn : x = n := by simpa using y
              cases z
              rw [yn]; exact List.mem_cons_self
            · exact List.mem_cons_of_mem _ (ih z)
        exact this _ hx'
      exact cloF_has hx' (hfr (x, .free) hmem rfl)
    · exact Nat.le_trans I3.ok.bsz I3.sz
    · rcases (exX b hb).2.2.2.1 with z | z
      · exact I3.ok.noex b o e z
      · exact absurd (Nat.lt_of_lt_of_le (Heap.lt_size (I3.ok.bs b o e).1) z) (Nat.lt_irrefl _)
  have hσl : (σof cm σ).length = Nc.length := by
    unfold σof
    rw [List.length_map]; exact hlen
  have I4 : Inv X' [] (σof cm σ) H2 { s2 with heap := h₁, toks := s2.toks + ([] : List (Str × Value)).length } := by
    refine ⟨okX, rfl, I3.bare, Un.kept keep1, ⟨_, hns₁, fun j x v e1 e2 e3 => ?_⟩, fun x c e => ?_, ?_, fun x c e => I3.freeC x c (clo x c e), (fun p hp => absurd (show p ∈ ([] : List (Addr × Obj)) from hp) (by simp)), I3.hok.kept keep1, hσl⟩
    · have e2' : ∃ i, cm[j]? = some (some i) ∧ σ[i]? = some (some v) := by
        unfold σof at e2
        rw [List.getElem?_map] at e2
        cases q : cm[j]? with
        | none => rw [q] at e2; simp at e2
        | some o =>
          rw [q] at e2
          cases o with
          | none => simp at e2
          | some i =>
            refine ⟨i, rfl, ?_⟩
            simp only [Option.map_some, Option.some.injEq] at e2
            cases q2 : σ[i]? with
            | none => rw [q2] at e2; simp at e2
            | some o2 => rw [q2] at e2; simp at e2; rw [e2]
      obtain ⟨i, ej, ei⟩ := e2'
      obtain ⟨n1, n2, n3⟩ := hcm j x i e1 ej
      obtain ⟨m, hn, hl⟩ := I3.loc
      have n3' : Vis X.env.scope x := by
        rcases n3 with z | z
        · exact .inr (.inl z)
        · exact .inr (.inr z)
      obtain ⟨u, r, l⟩ := hl i x v n1 ei n3'
      refine ⟨u, r, ?_⟩
      rcases l with ⟨l, _⟩ | ⟨_, c, ec, ic⟩
      · rcases n3 with z | z
        · rw [l] at z; cases z
        · rw [l] at z; cases z
      · obtain ⟨c', ec'⟩ := cloF_has (cells := X.env.cells) (acc := []) n2 ⟨c, ec⟩
        have hcc := clo x c' ec'
        rw [ec] at hcc; cases hcc
        obtain ⟨oc, hoc, hdc⟩ := ic
        refine .inr ⟨?_, c, ec', oc, keep1 _ _ hoc, hdc⟩
        exact lookup_relabel_free (env := X.env) n2
    · obtain ⟨v, oc, hoc, hdc⟩ := I3.cell x c (clo x c e)
      exact ⟨v, oc, keep1 _ _ hoc, hdc⟩
    · exact I3.hok.fresh (Nat.le_refl _)
  have stat : ∀ {H' : Hp} {pl : List (Addr × Obj)}, (∀ b ∈ fp, H' b = none) → (∀ p ∈ pl, p.1 = D) → ∀ b ∈ fp, FpOk X' pl H' b := fun {H' pl} hn hpl b hb =>
    ⟨hn b hb, Nat.ne_of_lt (exC b (List.mem_cons_of_mem _ hb)), exS b (List.mem_cons_of_mem _ hb), .inl (List.mem_cons_of_mem _ hb), fun x c e => (f2 b hb).2.2.2.2.1 x c (clo x c e), fun p hp z => by
      have : p ∈ pl := (List.mem_append.mp hp).elim (fun z => absurd (show p ∈ ([] : List (Addr × Obj)) from z) (by simp)) fun z => z
      have e := hpl p this
      rw [e] at z
      exact absurd (fpD b hb) (by rw [← z]; exact Nat.lt_irrefl _)⟩
  have hDC : D ≠ h3.objs.size := by rw [hCs]; exact Nat.ne_of_lt (Nat.lt_succ_self _)
  have hDs : D ∉ frs X.stack := exS D List.mem_cons_self
  -- the loop
  have loop : ∀ s5 : Shared, s5 = { s2 with heap := h₁, toks := s2.toks + ([] : List (Str × Value)).length } →
      codeAny (model X.prog X.w) X.A (.compLoop (.ListComp elt [⟨tg, iter, ifs, 0⟩] scope pos) 0 (.ref it) (.ref D) (compEnvC scope (cloF X.env.cells scope.names []) h3.objs.size X.env))
        (compPost (model X.prog X.w) X.A X.xe none (EP X pins σ Q) (.ref D) h3.objs.size) s5 := by
    rintro s5 rfl
    refine codeAny_loop rfl (fun n s' => ∃ i acc its k H', Inv X' [] (σof cm σ) H' s' ∧ tn i s'.heap ∧ (∀ b ∈ fp, H' b = none) ∧ s'.heap.get? D = some { cls := .type "list", data := .seq (List.toArray its) k } ∧ H' D = none ∧ Vals acc its ∧ acc.length ≤ sizeLine ∧ W i n acc H') (fun n s' hI => ?_) m0
      ⟨0, [], [], 0, H2, I4, T.keep _ _ _ st3 fun b _ o q => keep1 b o q, fun b hb => (f2 b hb).1, keep1 _ _ hD3, hDn, .nil, Nat.zero_le _, w0⟩
    obtain ⟨i, acc, its, k, H5, J5, t5, fr5, d5, dn5, va5, ac5, w5⟩ := hI
    show wpAny _ X.A ((compTurn (.ListComp elt [⟨tg, iter, ifs, 0⟩] scope pos) 0 (.ref it) (.ref D) (compEnvC scope (cloF X.env.cells scope.names []) h3.objs.size X.env)).onRaise (fun x => do noteFrame x (compEnvC scope (cloF X.env.cells scope.names []) h3.objs.size X.env); theTreesLotGoes x)) _ _ s'
    refine wpAny_noted ?_
    rw [compTurn_list]
    have nocell : ∀ v, ({ cls := .type "list", data := .seq (List.toArray its) k } : Obj).data ≠ .cell v := fun v z => nomatch z
    have P5 : Inv X' [(D, { cls := .type "list", data := .seq (List.toArray its) k })] (σof cm σ) H5 s' := J5.pins_of fun p hp => by
      have e : p = (D, { cls := .type "list", data := .seq (List.toArray its) k }) := by simpa using hp
      subst e
      exact ⟨d5, dn5, hDC, hDs, nocell⟩
    have pl1 : ∀ p ∈ [((D, { cls := .type "list", data := .seq (List.toArray its) k }) : Addr × Obj)], p.1 = D := fun p hp => by
      have e : p = (D, { cls := .type "list", data := .seq (List.toArray its) k }) := by simpa using hp
      rw [e]
    rcases turn i n acc H5 w5 with ⟨stop, qn⟩ | ⟨go, hsz, step⟩
    · refine wpAny_bind (wpAny_standAt (wpAny_bind (wpAny_mono (T.done X' rfl rfl rfl hc i _ s' _ H5 (fun _ _ => False) P5 (stat fr5 pl1) t5 stop) (fun r s6 ⟨hr, J6⟩ => ?_) fun _ _ f => f.elim)))
      subst hr
      refine wpAny_pure ?_
      obtain ⟨mC, hnC, _⟩ := J6.loc
      refine ⟨mC, hnC, fun h' hsb => ?_⟩
      have hCn : H5 h3.objs.size = none := J6.free
      have toh : ∀ b u, b ≠ h3.objs.size → s6.heap.get? b = some u → h'.get? b = some u := fun b u hb q => (hsb.2 b hb).trans q
      have hok' : HOk X.prog X.w H5 h' := fun a o e => (J6.hok a o e).stay (fun b u hb q => toh b u (by
        rintro rfl
        rcases hb with z | z
        · rw [← z, hCn] at e; cases e
        · rw [hCn] at z; cases z) q) (fun _ q => q) fun _ _ q => q
      have ltC : ∀ {b : Addr} {u : Obj}, h3.get? b = some u → b ≠ h3.objs.size := fun q => Nat.ne_of_lt (Heap.lt_size q)
      have un' : Un (frs X.stack) (D :: fp) H2 H5 h3 h' := by
        have u := J6.base
        refine ⟨fun b o e n hb hx => toh b o (ltC e) (u.keep b o e n hb hx), fun b o e n hb hx => ?_, u.free, fun b o e hx => ?_, u.tups, u.frzs, u.tbls⟩
        · obtain ⟨sl, q⟩ := u.slot b o e n hb hx
          exact ⟨sl, toh b _ (ltC e) q⟩
        · obtain ⟨o', q⟩ := u.there b o e hx
          exact ⟨o', toh b _ (ltC e) q⟩
      have J7 : Inv X pins σ H5 { s6 with heap := h' } := Inv.call' (s' := { s6 with heap := h' }) (ch := D :: fp) I3 J6.os un' hok' J6.bare fun b hb => by
        obtain ⟨_, n1, n2, n3, n4, n5⟩ := exX b hb
        exact ⟨n3, n1, n4, n5⟩
      obtain ⟨dg, dg2, _⟩ := J6.pin (D, { cls := .type "list", data := .seq (List.toArray its) k }) (by simp)
      obtain ⟨_, n1, n2, n3, n4, n5⟩ := exX D List.mem_cons_self
      have n3' : X.s₀.heap.objs.size ≤ D := by
        have := I2.sz
        rw [hDg] at this
        exact this
      refine ⟨.ref D, _, J7.track (o := .lst acc) dg2 n3' n1 n4 n5 ⟨ac5, its, k, va5, toh _ _ hDC dg⟩, rfl, qn D dg2⟩
    · refine wpAny_bind (wpAny_standAt (wpAny_bind (wpAny_mono (T.item X' rfl rfl rfl hc i _ s' _ H5 (fun _ _ => False) P5 (stat fr5 pl1) t5 go) (fun r s6 ⟨u, hr, h6⟩ => ?_) fun _ _ f => f.elim)))
      subst hr
      refine wpAny_bind (wpAny_mono h6 (fun _ s7 ⟨x, H7, J7, r7, y7, t7, fr7⟩ => ?_) fun _ _ f => f.elim)
      have P7 := J7.pinned (stat fr7 pl1) (T.obj _ _ t7)
      refine wpAny_bind (wpAny_mono (hg _ _ _ _ _ s7 _ H7 x u _ P7 r7 (step x H7 y7)) (fun _ s8 ⟨σ8, H8, J8, wk8, q8⟩ => ?_) fun _ _ f => f.elim)
      refine wpAny_bind (wpAny_mono (ht _ _ _ _ _ s8 σ8 H8 _ J8 q8) (fun b s9 ⟨H9, J9, q9⟩ => ?_) fun _ _ f => f.elim)
      have back : ∀ {Ha : Hp} {sa : Shared}, Inv X' ([(D, { cls := .type "list", data := .seq (List.toArray its) k })] ++ pinsAt fp s7.heap) σ8 Ha sa →
          Inv X' [] (σof cm σ) Ha sa ∧ tn (i + 1) sa.heap ∧ (∀ b ∈ fp, Ha b = none) ∧ sa.heap.get? D = some { cls := .type "list", data := .seq (List.toArray its) k } ∧ Ha D = none := fun {Ha sa} Ja => by
        refine ⟨(Ja.weak wk8.1 wk8.2).pins_of fun p hp => absurd hp (by simp), T.keep _ _ _ t7 fun b hb o e => (Ja.pin (b, o) (List.mem_append_right _ (List.mem_append_right _ (mem_pinsAt hb e)))).1, fun b hb => ?_, ?_⟩
        · obtain ⟨o, e, d⟩ := T.obj _ _ t7 b hb
          exact (Ja.pin (b, o) (List.mem_append_right _ (List.mem_append_right _ (mem_pinsAt hb e)))).2.1
        · obtain ⟨z1, z2, _⟩ := Ja.pin (D, { cls := .type "list", data := .seq (List.toArray its) k }) (by simp)
          exact ⟨z1, z2⟩
      cases b with
      | false =>
        simp only [Bool.false_eq_true, if_false] at q9 ⊢
        obtain ⟨m', hm, w'⟩ := q9
        obtain ⟨z0, z1, z2, z3, z4⟩ := back J9
        exact wpAny_pure ⟨rfl, m', hm, i + 1, acc, its, k, H9, z0, z1, z2, z3, z4, va5, ac5, w'⟩
      | true =>
        simp only [if_true] at q9 ⊢
        refine wpAny_bind (wpAny_bind (wpAny_mono (he _ _ _ _ _ s9 σ8 H9 _ J9 q9) (fun y s10 ⟨v, H10, J10, rv, q10⟩ => wpAny_bind ?_) fun _ _ f => f.elim))
        obtain ⟨m', hm, w'⟩ := q10
        obtain ⟨z0, z1, z2, z3, z4⟩ := back J10
        have hli := va5.length
        refine call_meets F.slot_list_append ⟨_, z3, rfl⟩ F.entry_list_append (F.args_list_append_2 _ _) (PySem.list_append D its.toArray k y (by rw [List.size_toArray]; omega)) ⟨z3, ?_⟩
        obtain ⟨k', q⟩ : ∃ k', (s10.heap.update D (Obj.mapSeq (·.push y))).get? D = some { cls := .type "list", data := .seq (List.toArray (its ++ [y])) k' } := by
          have q := PySem.IsL.update z3 (·.push y)
          have e : its.toArray.push y = (its ++ [y]).toArray := by simp
          rw [e] at q
          exact ⟨_, q⟩
        refine wpAny_pure (wpAny_pure ⟨rfl, m', hm, i + 1, acc ++ [v], its ++ [y], k', H10, z0.turned (it := D) (fun b o hb hu => (Heap.get?_update_other s10.heap (Obj.mapSeq (·.push y)) (Ne.symm hb)).trans hu) z4 hDC (.inl List.mem_cons_self) (fun x c e => (exX D List.mem_cons_self).2.2.2.2.1 x c (clo x c e)) (fun p hp => absurd (show p ∈ ([] : List (Addr × Obj)) from hp) (by simp)),
          T.keep _ _ _ z1 fun b hb o e => (Heap.get?_update_other s10.heap (Obj.mapSeq (·.push y)) (Nat.ne_of_gt (fpD b hb))).trans e, z2, q, z4, va5.append (.cons rv .nil), by rw [List.length_append, List.length_singleton]; omega, w'⟩)
  exact codeAny_compStart_list (loop _ rfl) (T.self X.A 0 _ _ _ (T.keep _ _ _ st3 fun b _ o q => keep1 b o q) (loop _ rfl))
end
end L2

namespace L2
open PySem PySem.Spec PyProof.Rows

/-- [f k for k in range(..)], no test, nothing made -/
theorem comp_range_map {lo : Int} {n : Nat} {te : TE} {cm : List (Option Nat)} {σ : St} {H : Hp} {Q : VK} (f : Nat → V) (hn : n ≤ sizeLine) {j : Nat} (hj : (σof cm σ)[j]? = some none)
    (hs : ∀ i, i < n → ∀ N : VK, N (f i) H → te ((σof cm σ).set j (some (.int (lo + i)))) H N)
    (hd : ∀ p, H p = none → Q (.ref p) (upd H p (.lst ((List.range n).map f)))) :
    ∃ W : Nat → Nat → List V → Hp → Prop, (∃ m, W 0 m [] H) ∧ ∀ i m acc H, W i m acc H →
      ((Itr lo n).stop i H ∧ ∀ p, H p = none → Q (.ref p) (upd H p (.lst acc))) ∨
      ((Itr lo n).go i H ∧ acc.length < sizeLine ∧ ∀ x H', (Itr lo n).yld i H x H' → gName j x (σof cm σ) H' fun σ2 H2 => Wk (σof cm σ) σ2 ∧ tYes σ2 H2 fun b H3 => if b = true then te σ2 H3 fun v H4 => ∃ m', m' < m ∧ W (i + 1) m' (acc ++ [v]) H4 else ∃ m', m' < m ∧ W (i + 1) m' acc H3) := by
  refine ⟨fun i m acc H' => m = n - i ∧ i ≤ n ∧ H' = H ∧ acc = (List.range i).map f, ⟨n, by simp, Nat.zero_le _, rfl, rfl⟩, ?_⟩
  rintro i m acc H' ⟨rfl, hi, rfl, rfl⟩
  by_cases hlt : i < n
  · refine .inr ⟨hlt, by rw [List.length_map, List.length_range]; omega, fun x H' y => ?_⟩
    obtain ⟨e, y⟩ := y
    subst e y
    refine ⟨⟨by simp, fun k v e => ?_⟩, ?_⟩
    · by_cases hk : j = k
      · subst hk; rw [hj] at e; cases e
      · rw [List.getElem?_set_ne hk]; exact e
    · unfold tYes; dsimp only
      split
      · refine hs i hlt _ ⟨n - (i + 1), by omega, rfl, hlt, rfl, ?_⟩
        rw [List.range_succ, List.map_append]; rfl
      · rename_i z; exact absurd rfl z
  · have e : i = n := by omega
    subst e
    exact .inl ⟨Nat.le_refl _, hd⟩
/-- the same over a list (or tuple) with a test: (xs.filter p).map f -/
theorem comp_list_map {K : PySem.W.Frag} {a : Addr} {xs : List V} {tc : TT} {te : TE} {cm : List (Option Nat)} {σ : St} {H : Hp} {Q : VK} (p : V → Bool) (f : V → V) (hl : SqL K H a xs) (hn : xs.length ≤ sizeLine) {j : Nat} (hj : (σof cm σ)[j]? = some none)
    (hc : ∀ x, x ∈ xs → ∀ N : Bool → Hp → Prop, N (p x) H → tc ((σof cm σ).set j (some x)) H N)
    (hs : ∀ x, x ∈ xs → p x = true → ∀ N : VK, N (f x) H → te ((σof cm σ).set j (some x)) H N)
    (hd : ∀ b, H b = none → Q (.ref b) (upd H b (.lst ((xs.filter p).map f)))) :
    ∃ W : Nat → Nat → List V → Hp → Prop, (∃ m, W 0 m [] H) ∧ ∀ i m acc H, W i m acc H →
      ((Itl K a).stop i H ∧ ∀ p, H p = none → Q (.ref p) (upd H p (.lst acc))) ∨
      ((Itl K a).go i H ∧ acc.length < sizeLine ∧ ∀ x H', (Itl K a).yld i H x H' → gName j x (σof cm σ) H' fun σ2 H2 => Wk (σof cm σ) σ2 ∧ tc σ2 H2 fun b H3 => if b = true then te σ2 H3 fun v H4 => ∃ m', m' < m ∧ W (i + 1) m' (acc ++ [v]) H4 else ∃ m', m' < m ∧ W (i + 1) m' acc H3) := by
  refine ⟨fun i m acc H' => m = xs.length - i ∧ i ≤ xs.length ∧ H' = H ∧ acc = ((xs.take i).filter p).map f, ⟨xs.length, by simp, Nat.zero_le _, rfl, by simp⟩, ?_⟩
  rintro i m acc H' ⟨rfl, hi, rfl, rfl⟩
  by_cases hlt : i < xs.length
  · have hx : xs[i]? = some xs[i] := by simp [hlt]
    have hle : (((xs.take i).filter p).map f).length < sizeLine := by
      rw [List.length_map]
      have := List.length_filter_le p (xs.take i)
      rw [List.length_take] at this
      omega
    refine .inr ⟨⟨xs, xs[i], hl, hx⟩, hle, fun x H' y => ?_⟩
    obtain ⟨e, y⟩ := y
    subst e
    have hy := y xs hl
    rw [hx] at hy; cases hy
    have hmem : xs[i] ∈ xs := List.getElem_mem hlt
    refine ⟨⟨by simp, fun k v e => ?_⟩, hc _ hmem _ ?_⟩
    · by_cases hk : j = k
      · subst hk; rw [hj] at e; cases e
      · rw [List.getElem?_set_ne hk]; exact e
    · have hstep : ((xs.take (i + 1)).filter p).map f = ((xs.take i).filter p).map f ++ (if p xs[i] then [f xs[i]] else []) := by
        rw [take_succ_filter p xs i _ hx, List.map_append]
        cases p xs[i] <;> rfl
      cases hp : p xs[i] with
      | true =>
        refine iteT (hs _ hmem hp _ ⟨xs.length - (i + 1), by omega, rfl, hlt, rfl, ?_⟩)
        rw [hstep, hp]; rfl
      | false =>
        refine iteF ⟨xs.length - (i + 1), by omega, rfl, hlt, rfl, ?_⟩
        rw [hstep, hp]; simp
  · have e : i = xs.length := by omega
    subst e
    refine .inl ⟨⟨xs, hl, Nat.le_refl _⟩, ?_⟩
    rw [List.take_length]
    exact hd
section
variable {X : Cx}
end
end L2

namespace L2
open PySem PySem.Spec PyProof.Rows
theorem bo_len : bootBuiltins "len" = some (.builtin "len") := by decide +kernel
theorem bo_isinstance : bootBuiltins "isinstance" = some (.builtin "isinstance") := by decide +kernel
theorem bo_min : bootBuiltins "min" = some (.builtin "min") := by decide +kernel
theorem bo_int : bootBuiltins "int" = some (.type "int") := by decide +kernel
theorem bo_bool : bootBuiltins "bool" = some (.type "bool") := by decide +kernel
theorem bo_str : bootBuiltins "str" = some (.type "str") := by decide +kernel
theorem bo_list : bootBuiltins "list" = some (.type "list") := by decide +kernel
theorem bo_tuple : bootBuiltins "tuple" = some (.type "tuple") := by decide +kernel
theorem bo_zip : bootBuiltins "zip" = some (.type "zip") := by decide +kernel
/-- a def of the text, as its callers know it -/
structure Def (K : PySem.W.Frag) (mg : Str → Option Value) (x : Str) (st : Stmt) (ps : List Str) (f : Addr) (fd : FuncData) : Prop where
  m : mg x = some (.ref f)
  F : Fun K x x st f fd
  b : Binds K fd ps []
/-- the checks of a comprehension's names, by computing -/
def freeOk (X : Cx) (scope : Scope) : Bool := scope.names.all fun y => y.2 != .free || (X.env.kindOf y.1 == some .cell || X.env.kindOf y.1 == some .free)
def cmOk (X : Cx) (scope : Scope) (Nc : List Str) (cm : List (Option Nat)) : Bool := (Nc.zip cm).all fun p => match p.2 with
  | none => true
  | some i => X.N[i]? == some p.1 && (scope.names.lookup p.1 == some .free && (X.env.kindOf p.1 == some .cell || X.env.kindOf p.1 == some .free))
theorem pe_lc {X : Cx} {tg iter elt : Expr} {ifs : List Expr} {scope : Scope} {pos : Pos} (Nc : List Str) (cm : List (Option Nat)) {wi : TI} {g : TG} {tc : TT} {te : TE}
    (hi : PI X tg iter wi) (hg : ∀ C s₀ H₀ ex, PG (blk X Nc scope C s₀ H₀ ex) tg g) (ht : ∀ C s₀ H₀ ex, PIf (blk X Nc scope C s₀ H₀ ex) ifs tc) (he : ∀ C s₀ H₀ ex, PE (blk X Nc scope C s₀ H₀ ex) elt te)
    (hc : X.calm = true := by rfl) (hkind : scope.kind = .function := by rfl) (hcell : ∀ y ∈ scope.names, y.2 ≠ .cell := by decide +kernel) (hnames : ∀ y ∈ scope.names, y.2 = .local → scope.names.lookup y.1 = some .local := by decide +kernel)
    (hfree : freeOk X scope = true := by rfl) (hlen : cm.length = Nc.length := by rfl) (hcm : cmOk X scope Nc cm = true := by rfl)
    (hs : ∀ x, foldedSetIterable iter X.env x = pure x := by intro _; rfl) : PE X (.ListComp elt [⟨tg, iter, ifs, 0⟩] scope pos) (tComp wi g tc te cm) := by
  refine pe_comp hc hi hkind hcell hnames (fun y hy e => ?_) hlen (fun j x i e1 e2 => ?_) hg ht he hs
  · have h := List.all_eq_true.mp hfree y hy
    rw [e] at h
    simpa using h
  · have hj : (Nc.zip cm)[j]? = some (x, some i) := by
      rw [List.getElem?_zip_eq_some]; exact ⟨e1, e2⟩
    have h := List.all_eq_true.mp hcm _ (List.mem_of_getElem? hj)
    simpa using h
end L2

namespace L2
open PySem PySem.Spec PyProof.Rows
theorem cxOf_K {CX : CXT} {P : Program} {w : World} {K : PySem.W.Frag} {mg : Str → Option Value} {base : Heap} {N : List Str} {qual : Str} {scope : Scope} {f : Addr} {cd : Value} {A : Around} {outer : List Env} {s : Shared} {H : Hp} {E : XK} :
    (cxOf CX P w K mg base N qual scope f cd A outer s H E).K = K := rfl
theorem start_eq (N : List Str) (vs : List V) : L2.start N vs = vs.map some ++ List.replicate (N.length - vs.length) none := rfl
end L2
namespace L2
open PySem PySem.Spec PyProof.Rows
theorem atI_int {ns : List Int} {k : Int} (h0 : 0 ≤ k) (h1 : k < ns.length) : atI (ns.map V.int) k = some (.int (ns.getD k.toNat 0)) := by
  have hl : k.toNat < ns.length := by omega
  have q : (ns.map V.int)[k.toNat]? = some (.int (ns.getD k.toNat 0)) := by
    rw [List.getElem?_map, List.getD_eq_getElem?_getD, List.getElem?_eq_getElem hl]
    rfl
  have q2 := atI_nat q
  rw [show ((k.toNat : Nat) : Int) = k by omega] at q2
  exact q2
theorem atI_int' {ns : List Int} {k : Nat} (h1 : k < ns.length) : atI (ns.map V.int) (k : Int) = some (.int (ns.getD k 0)) := by
  have := atI_int (ns := ns) (k := (k : Int)) (by omega) (by omega)
  simpa using this
theorem getD_out {ns : List Int} {k : Nat} (h : ns.length ≤ k) : ns.getD k 0 = 0 := by
  rw [List.getD_eq_getElem?_getD, List.getElem?_eq_none_iff.mpr h]; rfl
/-- a good list of depths -/
structure Shaft (ds : List Int) : Prop where
  l2 : 2 ≤ ds.length
  l6 : ds.length ≤ 6
  lo : ∀ d ∈ ds, 0 ≤ d
  hi : ∀ d ∈ ds, d ≤ 500
  up : ds.Pairwise (· < ·)
theorem Shaft.get {ds : List Int} (h : Shaft ds) {i : Nat} (hi : i < ds.length) : 0 ≤ ds.getD i 0 ∧ ds.getD i 0 ≤ 500 := by
  rw [List.getD_eq_getElem?_getD, List.getElem?_eq_getElem hi, Option.getD_some]
  exact ⟨h.lo _ (List.getElem_mem hi), h.hi _ (List.getElem_mem hi)⟩
theorem Shaft.lt {ds : List Int} (h : Shaft ds) {i j : Nat} (hij : i < j) (hj : j < ds.length) : ds.getD i 0 < ds.getD j 0 := by
  have hi : i < ds.length := Nat.lt_trans hij hj
  rw [List.getD_eq_getElem?_getD, List.getElem?_eq_getElem hi, List.getD_eq_getElem?_getD, List.getElem?_eq_getElem hj, Option.getD_some, Option.getD_some]
  exact List.pairwise_iff_getElem.mp h.up i j hi hj hij
/-- the last depth -/
def whole (ds : List Int) : Int := ds.getD (ds.length - 1) 0
theorem Shaft.le_whole {ds : List Int} (h : Shaft ds) {d : Int} (hd : d ∈ ds) : d ≤ whole ds := by
  obtain ⟨i, hi, rfl⟩ := List.getElem_of_mem hd
  have e : ds[i] = ds.getD i 0 := by rw [List.getD_eq_getElem?_getD, List.getElem?_eq_getElem hi]; rfl
  rw [e]
  unfold whole
  by_cases hl : i = ds.length - 1
  · rw [hl]; exact Int.le_refl _
  · exact Int.le_of_lt (h.lt (by omega) (by have := h.l2; omega))
/-- the made list with evenly spaced depths -/
theorem Shaft.even {n : Nat} {g : Int} (h2 : 2 ≤ n) (h6 : n ≤ 6) (g1 : 1 ≤ g) (g2 : g ≤ 100) : Shaft ((List.range n).map fun (i : Nat) => g * (i : Int)) := by
  refine ⟨by simpa using h2, by simpa using h6, fun d hd => ?_, fun d hd => ?_, ?_⟩
  · obtain ⟨i, hi, rfl⟩ := List.mem_map.mp hd
    exact Int.mul_nonneg (by omega) (by omega)
  · obtain ⟨i, hi, rfl⟩ := List.mem_map.mp hd
    have hi' := List.mem_range.mp hi
    have a : g * (i : Int) ≤ g * 5 := Int.mul_le_mul_of_nonneg_left (by omega) (by omega)
    omega
  · rw [List.pairwise_map]
    refine List.Pairwise.imp_of_mem (fun {a b} ha hb hab => ?_) List.pairwise_lt_range
    exact Int.mul_lt_mul_of_pos_left (by omega) (by omega)
/-- a made list so far: rising, from 0, its last one at most l -/
structure Rising (ds : List Int) (l : Int) : Prop where
  lo : ∀ d ∈ ds, 0 ≤ d
  hi : ∀ d ∈ ds, d ≤ l
  up : ds.Pairwise (· < ·)
  l0 : -1 ≤ l
theorem Rising.nil : Rising [] (-1) := ⟨by simp, by simp, List.Pairwise.nil, by omega⟩
theorem Rising.snoc {ds : List Int} {l r : Int} (h : Rising ds l) (h0 : 0 ≤ r) : Rising (ds ++ [l + 1 + r]) (l + 1 + r) := by
  have l0 := h.l0
  refine ⟨fun d hd => ?_, fun d hd => ?_, ?_, by omega⟩
  · rcases List.mem_append.mp hd with z | z
    · exact h.lo d z
    · have : d = l + 1 + r := by simpa using z
      omega
  · rcases List.mem_append.mp hd with z | z
    · have := h.hi d z; omega
    · have : d = l + 1 + r := by simpa using z
      omega
  · rw [List.pairwise_append]
    refine ⟨h.up, by simp, fun a ha b hb => ?_⟩
    have hb' : b = l + 1 + r := by simpa using hb
    have := h.hi a ha; omega
theorem Rising.shaft {ds : List Int} {l : Int} (h : Rising ds l) (hl : l ≤ 500) (h2 : 2 ≤ ds.length) (h6 : ds.length ≤ 6) : Shaft ds :=
  ⟨h2, h6, h.lo, fun d hd => Int.le_trans (h.hi d hd) hl, h.up⟩
/-- the first made 0, the last 500 -/
theorem Shaft.ends {ds : List Int} (h : Shaft ds) : Shaft ([0] ++ (ds.drop 1).take (ds.length - 1 - 1) ++ [500]) := by
  have l2 := h.l2
  have l6 := h.l6
  have hlen : ((ds.drop 1).take (ds.length - 1 - 1)).length = ds.length - 2 := by
    rw [List.length_take, List.length_drop]; omega
  have hmem : ∀ d, d ∈ (ds.drop 1).take (ds.length - 1 - 1) → 0 < d ∧ d < 500 := fun d hd => by
    obtain ⟨i, hi, rfl⟩ := List.getElem_of_mem hd
    rw [hlen] at hi
    have e : ((ds.drop 1).take (ds.length - 1 - 1))[i]'(by rw [hlen]; exact hi) = ds.getD (1 + i) 0 := by
      rw [List.getElem_take, List.getElem_drop, List.getD_eq_getElem?_getD, List.getElem?_eq_getElem (by omega)]
      rfl
    rw [e]
    have a := h.lt (i := 0) (j := 1 + i) (by omega) (by omega)
    have b := h.lt (i := 1 + i) (j := ds.length - 1) (by omega) (by omega)
    have c := (h.get (i := 0) (by omega)).1
    have d := (h.get (i := ds.length - 1) (by omega)).2
    omega
  refine ⟨by simp [hlen] <;> omega, by simp [hlen] <;> omega, fun d hd => ?_, fun d hd => ?_, ?_⟩
  · rcases List.mem_append.mp hd with z | z
    · rcases List.mem_append.mp z with z | z
      · have : d = 0 := by simpa using z
        omega
      · have := hmem d z; omega
    · have : d = 500 := by simpa using z
      omega
  · rcases List.mem_append.mp hd with z | z
    · rcases List.mem_append.mp z with z | z
      · have : d = 0 := by simpa using z
        omega
      · have := hmem d z; omega
    · have : d = 500 := by simpa using z
      omega
  · rw [List.pairwise_append, List.pairwise_append]
    refine ⟨⟨by simp, (h.up.drop).take, fun a ha b hb => ?_⟩, by simp, fun a ha b hb => ?_⟩
    · have ha' : a = 0 := by simpa using ha
      have := hmem b hb; omega
    · have hb' : b = 500 := by simpa using hb
      rcases List.mem_append.mp ha with z | z
      · have : a = 0 := by simpa using z
        omega
      · have := hmem a z; omega
end L2

namespace L2
open PySem PySem.Spec PyProof.Rows
/-! ### loops and comprehensions kept whole in a reading -/
def LoopJ (J : It) (g : TG) (tb : TS) (D : Ends) (σ : St) (H1 : Hp) : Prop := ∃ W : Nat → Nat → St → Hp → Prop, (∃ m, W 0 m σ H1) ∧ ∀ i m σ H, W i m σ H →
  (J.stop i H ∧ D.nx σ H) ∨ (J.go i H ∧ ∃ N : St → Hp → Prop, (∀ σ' H', N σ' H' → ∃ m', m' < m ∧ W (i + 1) m' σ' H') ∧ ∀ x H', J.yld i H x H' → g x σ H' fun σ2 H2 => tb { D with nx := N, ct := N, bk := D.nx } σ2 H2)
theorem tFor_eq (wi : TI) (g : TG) (tb : TS) (D : Ends) (σ : St) (H : Hp) : tFor wi g tb D σ H = wi σ H fun J H1 => LoopJ J g tb D σ H1 := rfl
def CompJ (J : It) (g : TG) (tc : TT) (te : TE) (cm : List (Option Nat)) (σ : St) (Q : VK) (H1 : Hp) : Prop := ∃ W : Nat → Nat → List V → Hp → Prop, (∃ m, W 0 m [] H1) ∧ ∀ i m acc H, W i m acc H →
  (J.stop i H ∧ ∀ p, H p = none → Q (.ref p) (upd H p (.lst acc))) ∨
  (J.go i H ∧ acc.length < sizeLine ∧ ∀ x H', J.yld i H x H' → g x (σof cm σ) H' fun σ2 H2 => Wk (σof cm σ) σ2 ∧ tc σ2 H2 fun b H3 => if b = true then te σ2 H3 fun v H4 => ∃ m', m' < m ∧ W (i + 1) m' (acc ++ [v]) H4 else ∃ m', m' < m ∧ W (i + 1) m' acc H3)
theorem tComp_eq (wi : TI) (g : TG) (tc : TT) (te : TE) (cm : List (Option Nat)) (σ : St) (H : Hp) (Q : VK) : tComp wi g tc te cm σ H Q = wi σ H fun J H1 => CompJ J g tc te cm σ Q H1 := rfl
theorem loop_range {lo : Int} {n : Nat} {g : TG} {tb : TS} {D : Ends} {σ : St} {H : Hp} (Pv : Nat → St → Hp → Prop) (h0 : Pv 0 σ H)
    (hs : ∀ i σ H, i < n → Pv i σ H → g (.int (lo + i)) σ H fun σ2 H2 => tb { D with nx := Pv (i + 1), ct := Pv (i + 1), bk := D.nx } σ2 H2) (hd : ∀ σ H, Pv n σ H → D.nx σ H) : LoopJ (Itr lo n) g tb D σ H := for_range Pv h0 hs hd
theorem loop_list {K : PySem.W.Frag} {a : Addr} (xs : List V) {g : TG} {tb : TS} {D : Ends} {σ : St} {H : Hp} (Pv : Nat → St → Hp → Prop) (h0 : Pv 0 σ H) (hl : ∀ i σ H, i ≤ xs.length → Pv i σ H → SqL K H a xs)
    (hs : ∀ i x σ H, xs[i]? = some x → Pv i σ H → g x σ H fun σ2 H2 => tb { D with nx := Pv (i + 1), ct := Pv (i + 1), bk := D.nx } σ2 H2) (hd : ∀ σ H, Pv xs.length σ H → D.nx σ H) : LoopJ (Itl K a) g tb D σ H := for_list Pv h0 hl hs hd
theorem cj_range_map {lo : Int} {n : Nat} {te : TE} {cm : List (Option Nat)} {σ : St} {H : Hp} {Q : VK} (f : Nat → V) (hn : n ≤ sizeLine) {j : Nat} (hj : (σof cm σ)[j]? = some none)
    (hs : ∀ i, i < n → ∀ N : VK, N (f i) H → te ((σof cm σ).set j (some (.int (lo + i)))) H N)
    (hd : ∀ p, H p = none → Q (.ref p) (upd H p (.lst ((List.range n).map f)))) : CompJ (Itr lo n) (gName j) tYes te cm σ Q H := comp_range_map f hn hj hs hd
theorem cj_list_map {K : PySem.W.Frag} {a : Addr} {xs : List V} {tc : TT} {te : TE} {cm : List (Option Nat)} {σ : St} {H : Hp} {Q : VK} (p : V → Bool) (f : V → V) (hl : SqL K H a xs) (hn : xs.length ≤ sizeLine) {j : Nat} (hj : (σof cm σ)[j]? = some none)
    (hc : ∀ x, x ∈ xs → ∀ N : Bool → Hp → Prop, N (p x) H → tc ((σof cm σ).set j (some x)) H N)
    (hs : ∀ x, x ∈ xs → p x = true → ∀ N : VK, N (f x) H → te ((σof cm σ).set j (some x)) H N)
    (hd : ∀ b, H b = none → Q (.ref b) (upd H b (.lst ((xs.filter p).map f)))) : CompJ (Itl K a) (gName j) tc te cm σ Q H := comp_list_map p f hl hn hj hc hs hd
theorem σof_cons_none (cm : List (Option Nat)) (σ : St) : σof (none :: cm) σ = none :: σof cm σ := rfl
theorem σof_cons_some (i : Nat) (cm : List (Option Nat)) (σ : St) : σof (some i :: cm) σ = (σ[i]?).getD none :: σof cm σ := rfl
theorem σof_nil (σ : St) : σof [] σ = [] := rfl
section
variable {K : PySem.W.Frag} {H : Hp} {Q : VK}
end
theorem scal_ii (a b : Int) : scal (.int a) (.int b) = true := rfl
theorem scal_bb (a b : Bool) : scal (.bl a) (.bl b) = true := rfl
theorem scal_ss (a b : Str) : scal (.str a) (.str b) = true := rfl
end L2
namespace L2
open PySem PySem.Spec PyProof.Rows
theorem upo {H : Hp} {a b : Addr} {o u : HO} (h : H b = some u) (hn : H a = none) : upd H a o b = some u := by rw [upd_ne (ne_of_none h hn)]; exact h
theorem upn {H : Hp} {a b : Addr} {o : HO} (h : upd H a o b = none) : H b = none := by
  by_cases e : b = a
  · subst e; rw [upd_same] at h; cases h
  · rw [upd_ne e] at h; exact h
theorem Same.lay {H H' : Hp} {a : Addr} {o : HO} (s : Same H H') (hn : H' a = none) : Same H (upd H' a o) := fun b u e => upo (s b u e) hn
theorem Same.rewr {H H' : Hp} {a : Addr} {o : HO} (s : Same H H') (hn : H a = none) : Same H (upd H' a o) := fun b u e => by rw [upd_ne (ne_of_none e hn)]; exact s b u e
theorem sIx_one {n d : Nat} (h : 1 ≤ n) : HT.sIx n d (some 1) = 1 := by
  have := HT.sIx_nat n d 1
  rw [show ((1 : Nat) : Int) = 1 from rfl] at this
  omega
theorem sIx_m1 {n d : Nat} (h : 1 ≤ n) : HT.sIx n d (some (-1)) = n - 1 := by
  have := HT.clip_eq (-1) n d
  rw [if_pos (by decide)] at this
  omega
theorem cut_ends (ds : List Int) (h : 2 ≤ ds.length) : cutV (ds.map V.int) (some 1) (some (-1)) = ((ds.drop 1).take (ds.length - 1 - 1)).map V.int := by
  unfold cutV
  rw [List.length_map, sIx_one (by omega), sIx_m1 (by omega), List.map_take, List.map_drop]
end L2
namespace L2
open PySem PySem.Spec PyProof.Rows
theorem eqV_int (a b : Int) : eqV (.int a) (.int b) = decide (a = b) := by
  simp [eqV, Bool.beq_eq_decide_eq]
theorem inV_int (d : Int) (ds : List Int) : inV (.int d) (ds.map V.int) = decide (d ∈ ds) := by
  unfold inV
  rw [List.any_map]
  by_cases h : d ∈ ds
  · rw [decide_eq_true h, List.any_eq_true]
    exact ⟨d, h, by simp [eqV_int]⟩
  · rw [decide_eq_false h, List.any_eq_false]
    intro x hx
    simp [eqV_int]
    rintro rfl
    exact h hx
theorem map_int_some {xs : List Int} {i : Nat} {x : V} (h : (xs.map V.int)[i]? = some x) : ∃ z, x = V.int z ∧ xs[i]? = some z ∧ z ∈ xs := by
  rw [List.getElem?_map] at h
  cases e : xs[i]? with
  | none => rw [e] at h; cases h
  | some z => rw [e] at h; exact ⟨z, (Option.some.inj h).symm, rfl, List.mem_of_getElem? e⟩
end L2

namespace L2
open PySem PySem.Spec PyProof.Rows
section
variable {X : Cx}
end
end L2
namespace L2
open PySem PySem.Spec PyProof.Rows
section
variable {X : Cx}
end
end L2
namespace L2
theorem atI_two {x y i : Int} (h : i = 0 ∨ i = 1) : ∃ m, (m = x ∨ m = y) ∧ atI [V.int x, V.int y] i = some (.int m) := by
  rcases h with rfl | rfl
  · exact ⟨x, .inl rfl, rfl⟩
  · exact ⟨y, .inr rfl, rfl⟩
theorem atI_three {x y z i : Int} (h : i = 0 ∨ i = 1 ∨ i = 2) : ∃ m, (m = x ∨ m = y ∨ m = z) ∧ atI [V.int x, V.int y, V.int z] i = some (.int m) := by
  rcases h with rfl | rfl | rfl
  · exact ⟨x, .inl rfl, rfl⟩
  · exact ⟨y, .inr (.inl rfl), rfl⟩
  · exact ⟨z, .inr (.inr rfl), rfl⟩
end L2

namespace L2
open PySem PySem.Spec PyProof.Rows
/-! ### an exception that has left a call -/
def CXf (P : Program) (w : World) : CXT := fun outer H s E e s' =>
  ∃ (x : Addr) (cls a0 : Value) (H' : Hp) (B : Heap), e = .ref x ∧ s'.os = s.os ∧ AllBare s'.gens ∧ Un (frs outer) [] H H' s.heap s'.heap ∧ HOk P w H' s'.heap ∧ Heap.FlyingW B outer x cls a0 s'.heap ∧
    (∀ b o, s'.heap.get? b = some o → (H' b ≠ none ∨ ∃ o0, s.heap.get? b = some o0) → b ∉ frs outer → B.get? b = some o) ∧ (∀ o, s.heap.get? x ≠ some o) ∧ H' x = none ∧ E cls none H'
theorem ObjOk.there {P : Program} {w : World} {H : Hp} {h : Heap} {a : Addr} {o : HO} (l : ObjOk P w H h a o) : ∃ ob, h.get? a = some ob := by
  cases o with
  | lst xs => obtain ⟨_, its, n, _, e⟩ := l; exact ⟨_, e⟩
  | tup xs => obtain ⟨_, its, _, ob, e, _⟩ := l; exact ⟨_, e⟩
  | dK kvs => obtain ⟨_, _, _, _, ob, _, _, e, _⟩ := l; exact ⟨_, e⟩
  | dT kvs => obtain ⟨_, _, _, _, ob, _, _, e, _⟩ := l; exact ⟨_, e⟩
  | set S n => obtain ⟨ob, _, _, _, e, _⟩ := l; exact ⟨_, e⟩
  | ins C dx fs => obtain ⟨_, _, _, e, _⟩ := l; exact ⟨_, e⟩
  | own y => exact l
  | xd fs => obtain ⟨mA, ⟨od, _, _, e, _⟩, _⟩ := l; exact ⟨_, e⟩
  | rng lo hi => obtain ⟨_, _, _, e⟩ := l; exact ⟨_, e⟩
  | frz ob u => obtain ⟨e, _⟩ := l; exact ⟨_, e⟩
  | tbl ps => exact ⟨_, l⟩
  | met f y => exact ⟨_, l⟩
  | ext φ => obtain ⟨_, h, _⟩ := l; exact h
section
variable {P : Program} {w : World} {K : PySem.W.Frag} {mg : Str → Option Value} {base : Heap} {N : List Str} {qual : Str} {scope : Scope} {f : Addr} {cd : Value} {A : Around} {outer : List Env} {s : Shared} {H : Hp} {E : XK}
abbrev cxF (P : Program) (w : World) (K : PySem.W.Frag) (mg : Str → Option Value) (base : Heap) (N : List Str) (qual : Str) (scope : Scope) (f : Addr) (cd : Value) (A : Around) (outer : List Env) (s : Shared) (H : Hp) (E : XK) : Cx :=
  cxOf (CXf P w) P w K mg base N qual scope f cd A outer s H E
/-- from the state in which it flies over this frame to the caller's view -/
theorem cxf_out {pins : List (Addr × Obj)} {σ : St} {H1 : Hp} {s1 : Shared} {h2 : Heap} {x : Addr} {cls a0 : Value} {B : Heap} (I : Inv (cxF P w K mg base N qual scope f cd A outer s H E) pins σ H1 s1)
    (hB : ∀ b o, s1.heap.get? b = some o → (H1 b ≠ none ∨ ∃ o0, s.heap.get? b = some o0) → b ∉ frs (cxF P w K mg base N qual scope f cd A outer s H E).stack → B.get? b = some o)
    (hfl : Heap.FlyingW B outer x cls a0 h2) (hsl : ∀ b o, s1.heap.get? b = some o → (∀ vs, o.data ≠ .fields vs) → ∃ sl, h2.get? b = some { o with slots := sl }) (hx : ∀ o, s.heap.get? x ≠ some o) (hx1 : H1 x = none) (q : E cls none H1) :
    CXf P w outer H s E (.ref x) { s1 with heap := h2 } := by
  have neL : ∀ b o, s.heap.get? b = some o → b ≠ s.heap.objs.size := fun b o e => Nat.ne_of_lt (Heap.lt_size e)
  have stk : ∀ b, b ∈ frs (cxF P w K mg base N qual scope f cd A outer s H E).stack → b = s.heap.objs.size ∨ b ∈ frs outer := fun b hb => by
    rcases List.mem_cons.mp (I.stkSub b hb) with z | z
    · exact .inl z
    · exact .inr z
  have hfree : H1 s.heap.objs.size = none := I.free
  have st : B.StaysIn h2 := hfl.1
  have frD : ∀ b ∈ frs outer, ∃ o, s.heap.get? b = some o ∧ ∀ vs, o.data ≠ .fields vs := fun b hb => (I.ok.funs.mem hb).2
  have u := I.base
  have nf : ∀ b o, s.heap.get? b = some o → b ∉ frs outer → b ∉ frs (cxF P w K mg base N qual scope f cd A outer s H E).stack := fun b o e hb z => (stk b z).elim (neL b o e) hb
  have up : ∀ b ∈ frs outer, ∀ o, s.heap.get? b = some o → ∃ sl, h2.get? b = some { o with slots := sl } := fun b hb o e => by
    obtain ⟨o', e', d⟩ := frD b hb
    rw [e] at e'; cases e'
    obtain ⟨sl, q1⟩ := u.any (b := b) e (I.ok.frf b hb) (by intro z; exact nomatch z)
    obtain ⟨sl', q2⟩ := hsl b _ q1 d
    exact ⟨sl', q2⟩
  refine ⟨x, cls, a0, H1, B, rfl, I.os, I.bare, ⟨fun b o e n hb _ => ?_, fun b o e n hb _ => up b hb o e, u.free, fun b o e _ => ?_, u.tups, u.frzs, u.tbls⟩, fun b o e => ?_, hfl, fun b o e hh hb => ?_, hx, hx1, q⟩
  · exact st b o (hB b o (u.keep b o e n hb (by intro z; exact nomatch z)) (.inr ⟨o, e⟩) (nf b o e hb))
  · by_cases hb : b ∈ frs outer
    · obtain ⟨sl, q⟩ := up b hb o e
      exact ⟨_, q⟩
    · obtain ⟨o', e'⟩ := u.there b o e (by intro z; exact nomatch z)
      exact ⟨o', st b o' (hB b o' e' (.inr ⟨o, e⟩) (nf b o e hb))⟩
  · have ne : b ≠ s.heap.objs.size := fun z => by rw [z, hfree] at e; cases e
    have inB : ∀ c v, H1 c ≠ none → s1.heap.get? c = some v → h2.get? c = some v := fun c v hc q => st c v (hB c v q (.inl hc) fun z => by
      rcases stk c z with y | y
      · rw [y] at hc; exact hc hfree
      · obtain ⟨o', e', _⟩ := frD c y
        exact hc (u.free c o' e' (I.ok.frf c y) (by intro z; exact nomatch z)))
    refine (I.hok b o e).stay (fun c v hc q => inB c v ?_ q) (fun _ q => q) fun _ _ q => q
    rcases hc with z | z
    · rw [z, e]; simp
    · rw [z]; simp
  · -- what stands there now stood there then
    have there1 : ∃ o1, s1.heap.get? b = some o1 := by
      rcases hh with z | ⟨o0, z⟩
      · cases q : H1 b with
        | none => exact absurd q z
        | some v => exact (I.hok b v q).there
      · exact u.there b o0 z (by intro z; exact nomatch z)
    obtain ⟨o1, e1⟩ := there1
    have nfb : b ∉ frs (cxF P w K mg base N qual scope f cd A outer s H E).stack := fun z => by
      rcases stk b z with y | y
      · rcases hh with t | ⟨o0, t⟩
        · rw [y] at t; exact t hfree
        · exact neL b o0 t y
      · exact hb y
    have e2 := hB b o1 e1 hh nfb
    have e3 := st b o1 e2
    have e' : h2.get? b = some o := e
    rw [e3] at e'; cases e'
    exact e2
/-- raised here, and off -/
theorem raise_off {pins : List (Addr × Obj)} {σ : St} {H1 : Hp} {s1 : Shared} {h' : Heap} {x : Addr} {cls : Value} {args : List Value} (I : Inv (cxF P w K mg base N qual scope f cd A outer s H E) pins σ H1 s1)
    (hx : Heap.MadeExcOf s1.heap h' x cls args) (q : E cls none H1) : (cxF P w K mg base N qual scope f cd A outer s H E).xe (.ref x) { s1 with heap := h' } := by
  have hn := hx.new
  have hin : ∀ env ∈ (cxF P w K mg base N qual scope f cd A outer s H E).stack, ∀ b, env.frame = some b → b ∈ frs (cxF P w K mg base N qual scope f cd A outer s H E).stack := fun env he b hb => List.mem_filterMap.mpr ⟨env, he, hb⟩
  have hx1 : H1 x = none := by
    cases q : H1 x with
    | none => rfl
    | some v =>
      obtain ⟨ob, e⟩ := (I.hok x v q).there
      rw [hn] at e; cases e
  refine wpAny_leaves_madeW (base := PySem.W.hideAll s1.heap (frs (cxF P w K mg base N qual scope f cd A outer s H E).stack)) (h := s1.heap) (s := { s1 with heap := h' }) I.ok.frames rfl (fun b o q => PySem.W.of_hideAll _ q) (PySem.W.funFrames_hide I.stack hin) hx fun h2 t f1 f2 f3 f4 => ?_
  refine cxf_out (s1 := s1) I (fun b o e _ hb => PySem.W.hideAll_get _ e hb) f1 (fun b o e d => f4 b o (hx.keeps b o e) d) (fun o e => ?_) hx1 q
  obtain ⟨o', e'⟩ := I.base.there x o e (by intro z; exact nomatch z)
  rw [hn] at e'; cases e'
/-- what has left a call made here, goes on -/
theorem passF : Passes (CXf P w) (cxF P w K mg base N qual scope f cd A outer s H E) E := by
  rintro pins σ H1 s1 e s2 I ⟨x, cls, a0, H2, B, rfl, os, bare, un, hok, hfl, hB, hx, hx2, q⟩
  have I2 : Inv (cxF P w K mg base N qual scope f cd A outer s H E) pins σ H2 s2 := I.call' os un hok bare fun b hb => absurd hb (by simp)
  refine wpAny_leaves_onW (s := s2) I.ok.frames rfl hfl fun h2 f1 f2 => ?_
  refine cxf_out I2 (fun b o e hh hb => hB b o e ?_ hb) f1 (fun b o e d => f2 b o e d) (fun o e => ?_) hx2 q
  · rcases hh with z | ⟨o0, z⟩
    · exact .inl z
    · obtain ⟨o1, e1⟩ := I.base.there b o0 z (by intro z; exact nomatch z)
      exact .inr ⟨o1, e1⟩
  · obtain ⟨o1, e1⟩ := I.base.there x o e (by intro z; exact nomatch z)
    exact hx o1 e1
theorem ownF : PassesOwn (model P w) (cxF P w K mg base N qual scope f cd A outer s H E).A (cxF P w K mg base N qual scope f cd A outer s H E).env (cxF P w K mg base N qual scope f cd A outer s H E).xe := PassesOwn.leaving
/-- a class of exceptions of the text, one step under another one that is straight under ValueError; the other one itself: bm without it -/
structure ExC (K : PySem.W.Frag) (C : Addr) : Prop where
  ex : ∃ (nm q : Str) (N : Addr) (bs bm : List Value) (hdct : Bool) (sn : List Str) (sub : List Value) (ab : Bool) (col : Option Bool) (dd : Option Addr) (k0 k1 k2 k3 k5 : Option Value) (mN : Str → Option Value),
    ∀ h, K.In h → h.get? C = some (excClassObj nm q C N bs bm hdct sn sub ab col dd k0 k1 k2 k3 k5 "ValueError.__new__") ∧ h.Ns N mN ∧ (∀ n ∈ quietNames, mN n = none) ∧ OwnTailQ h [.type "ValueError", .type "Exception", .type "BaseException", .type "object"] bm
def strKeys (es : Array DictEntry) : Bool := es.toList.all fun e => match e.key with | .str _ _ => true | _ => false
theorem ns_mk {K : PySem.W.Frag} {h : Heap} {N : Addr} {c : Value} {d : Option Addr} {es : Array DictEntry} {ep : Nat} {sl : Array (Option Value)} (X : K.In h) (l : K.lookup N = some ⟨c, d, .dict es ep, sl⟩) (k : strKeys es = true) : h.Ns N (nsFind es) := by
  refine ⟨_, es, ep, X _ _ l, rfl, fun e he => ?_, fun _ => rfl⟩
  have z := List.all_eq_true.mp k e (by simpa using he)
  split at z
  · rename_i n t q; exact ⟨n, t, q⟩
  · cases z
theorem exc_mk {K : PySem.W.Frag} {C N C0 N0 : Addr} {nm q : Str} {bs : List Value} {hdct : Bool} {sn : List Str} {sub : List Value} {ab : Bool} {col : Option Bool} {dd : Option Addr} {k0 k1 k2 k3 k5 : Option Value}
    {c1 c2 c0 : Value} {d1 d2 dd0 : Option Addr} {es es0 : Array DictEntry} {ep ep0 : Nat} {sl1 sl2 sl0 : Array (Option Value)} {cd0 : ClassData}
    (lC : K.lookup C = some (excClassObj nm q C N bs [.ref C0, .type "ValueError", .type "Exception", .type "BaseException", .type "object"] hdct sn sub ab col dd k0 k1 k2 k3 k5 "ValueError.__new__"))
    (lN : K.lookup N = some ⟨c1, d1, .dict es ep, sl1⟩) (kN : strKeys es = true) (iN : (quietNames.all fun n => (nsFind es n).isNone) = true)
    (l0 : K.lookup C0 = some ⟨c0, dd0, .cls cd0, sl0⟩) (e0 : cd0.ns = N0) (lN0 : K.lookup N0 = some ⟨c2, d2, .dict es0 ep0, sl2⟩) (kN0 : strKeys es0 = true) (iN0 : (quietNames.all fun n => (nsFind es0 n).isNone) = true) : ExC K C :=
  ⟨nm, q, N, bs, _, hdct, sn, sub, ab, col, dd, k0, k1, k2, k3, k5, nsFind es, fun h X => ⟨X _ _ lC, ns_mk X lN kN, fun n hn => Option.isNone_iff_eq_none.mp (List.all_eq_true.mp iN n hn), .own (X _ _ l0) (e0 ▸ ns_mk X lN0 kN0) (fun n hn => Option.isNone_iff_eq_none.mp (List.all_eq_true.mp iN0 n hn)) .base⟩⟩
/-- raise C(e, ..) -/
def tRaise (E : XK) (C : Addr) (t : TA) : TS := fun _ σ H => t σ H fun vs H1 => vs.length ≤ sizeLine ∧ E (.ref C) none H1
theorem ps_raise {x : Str} {C : Addr} {e : Expr} {es : List Expr} {t : TA} {np cpos pos : Pos} (O : ExC K C) (hg : Gl (cxF P w K mg base N qual scope f cd A outer s H E) x) (hm : mg x = some (.ref C))
    (ha : PA (cxF P w K mg base N qual scope f cd A outer s H E) (e :: es) t) (hdb : (x == ("__debug__" : Str)) = false := by decide)
    (he : starEach (e :: es) (cxF P w K mg base N qual scope f cd A outer s H E).env = (false, eval e (cxF P w K mg base N qual scope f cd A outer s H E).env) :: starEach es (cxF P w K mg base N qual scope f cd A outer s H E).env := by rfl)
    (hpl : (backTo cpos (starEach es (cxF P w K mg base N qual scope f cd A outer s H E).env)).any (·.1) = false := by rfl) :
    PS (cxF P w K mg base N qual scope f cd A outer s H E) (.Raise (some (.Call (.Name x np) (e :: es) [] cpos)) none pos) (tRaise E C t) := by
  intro pins s1 σ H1 D I h
  obtain ⟨nm, q, N, bs, bm, hdct, sn, sub, ab, col, dd, k0, k1, k2, k3, k5, mN, O⟩ := O.ex
  obtain ⟨_, _, hni, T0⟩ := O _ I.kIn
  refine wpAny_Raise_call_subU (C := C) (nm := nm) (q := q) (N := N) (bs := bs) (bm := bm) (hdct := hdct) (sn := sn) (sub := sub) (ab := ab) (col := col) (dd := dd) (k0 := k0) (k1 := k1) (k2 := k2) (k3 := k3) (k5 := k5)
    PySem.F.excBase_ValueError (by decide +kernel) PySem.F.excBase_ValueError (mN := mN) (T0.tail.hasType PySem.F.excBase_ValueError.hasBase) (I.ok.hd rfl) (by rw [he]; show (false || (backTo cpos (starEach es _)).any (·.1)) = false; rw [hpl]; rfl) (hni _ (.head _)) (ld_glob I hg hm ⟨rfl, ?_⟩ hdb)
  have ha' := ha cpos pins s1 σ H1 _ I h
  rw [he] at ha' ⊢
  refine Calls.evalArgs_plain (wpAny_mono ha' (fun us s2 h2 => ?_) fun _ _ y => y)
  obtain ⟨vs, H2, I2, rv, hlen, qE⟩ := h2
  obtain ⟨a1, a2, _, a4⟩ := O _ I2.kIn
  exact ⟨rfl, by rw [← rv.length]; exact hlen, a1, a2, a4.tail, fun h' e hx => raise_off I2 hx qE⟩
/-- a def that may raise -/
theorem Fun.okF {x qual : Str} {st : Stmt} {f : Addr} {fd : FuncData} {N ps : List Str} {k : Nat} {sp : Sp} (F : Fun K x qual st f fd) (S : FnScope N ps (defScope st)) (len : ∀ vs H Q E, sp vs H Q E → vs.length = ps.length)
    (hbody : ∀ (cdv : Value) (A : Around) (outer : List Env) (s : Shared) (H : Hp) (vs : List V) (Q : VK) (E : XK), Room k (A.deeper (envOfC qual (defScope st) s.heap.objs.size f cdv)) → sp vs H Q E →
      ∃ t, PSs (cxF P w K mg base N qual (defScope st) f cdv A outer s H E) (defBody st) t ∧ t { nx := fun _ H' => Q .non H', rt := Q } (start N vs) H) : FnOk P w K mg base (CXf P w) (k + 1) f fd ps sp := by
  obtain ⟨oc, od, kV, doc, pm, an, cdv, ct, osl, rfl, lk, hcd⟩ := F.ex
  refine fn_of lk hcd S len fun A outer s H vs Q E hr hsp => ?_
  exact hbody cdv A outer s H vs Q E hr hsp
end
end L2

namespace L2
open PySem PySem.Spec PyProof.Rows
/-! ### try: .. except C as n: .. -/
abbrev XT := Value → St → Hp → Prop
/-- the context of a try's body -/
def Xt (X : Cx) (pins : List (Addr × Obj)) (E' : XT) : Cx :=
  { X with pn := X.pn ++ pins, xe := fun e s' => ∃ σ H s, Inv X pins σ H s ∧ CXf X.prog X.w X.stack H s (fun cls _ H' => E' cls σ H') e s' }
/-- the context of an except's suite -/
def Xh (X : Cx) (e : Value) : Cx := { X with A := X.A.mark (some e), calm := false, xe := fun _ _ => False }
section
variable {X : Cx} {pins pins' : List (Addr × Obj)} {σ : St} {H : Hp} {s : Shared} {E' : XT} {e : Value}
theorem Cx.Ok.toT (ok : X.Ok) : (Xt X pins E').Ok := ⟨ok.mod, ok.kind, ok.glob, ok.blt, ok.above, ok.inj, ok.has, ok.cab, ok.hd, ok.frames, ok.stk, ok.exf, ok.bs, ok.bsz, ok.noex, ok.exfs, ok.funs, ok.frf⟩
theorem Cx.Ok.ofT (ok : (Xt X pins E').Ok) : X.Ok := ⟨ok.mod, ok.kind, ok.glob, ok.blt, ok.above, ok.inj, ok.has, ok.cab, ok.hd, ok.frames, ok.stk, ok.exf, ok.bs, ok.bsz, ok.noex, ok.exfs, ok.funs, ok.frf⟩
theorem Inv.toT (I : Inv X pins σ H s) : Inv (Xt X pins E') [] σ H s := ⟨I.ok.toT, I.os, I.bare, I.base, I.loc, I.cell, I.free, I.freeC, fun p hp => I.pin p (by simpa [Xt] using hp), I.hok, I.len⟩
theorem Inv.ofT (I : Inv (Xt X pins E') pins' σ H s) : Inv X pins σ H s := ⟨I.ok.ofT, I.os, I.bare, I.base, I.loc, I.cell, I.free, I.freeC, fun p hp => I.pin p (List.mem_append_left _ hp), I.hok, I.len⟩
theorem Inv.toH (I : Inv X pins σ H s) : Inv (Xh X e) pins σ H s :=
  ⟨⟨I.ok.mod, I.ok.kind, I.ok.glob, I.ok.blt, I.ok.above, I.ok.inj, I.ok.has, I.ok.cab, fun z => (Bool.false_ne_true z).elim, I.ok.frames, I.ok.stk, I.ok.exf, I.ok.bs, I.ok.bsz, I.ok.noex, I.ok.exfs, I.ok.funs, I.ok.frf⟩, I.os, I.bare, I.base, I.loc, I.cell, I.free, I.freeC, I.pin, I.hok, I.len⟩
theorem Inv.ofH (ok : X.Ok) (I : Inv (Xh X e) pins σ H s) : Inv X pins σ H s := ⟨ok, I.os, I.bare, I.base, I.loc, I.cell, I.free, I.freeC, I.pin, I.hok, I.len⟩
/-- at the call the frame knew σ; an exception has come back since, and looked about -/
theorem Inv.flown {H1 : Hp} {s1 : Shared} {h2 : Heap} {B : Heap} (I : Inv X pins σ H s) (os : s1.os = s.os) (bare : AllBare s1.gens) (un : Un (frs X.stack) [] H H1 s.heap s1.heap) (hok : HOk X.prog X.w H1 s1.heap)
    (hB : ∀ b o, s1.heap.get? b = some o → (H1 b ≠ none ∨ ∃ o0, s.heap.get? b = some o0) → b ∉ frs X.stack → B.get? b = some o) (st : B.StaysIn h2) (hsl : s1.heap.UpToSlots h2) : Inv X pins σ H1 { s1 with heap := h2 } := by
  have frD : ∀ b ∈ frs X.stack, ∃ o, s.heap.get? b = some o ∧ ∀ vs, o.data ≠ .fields vs := fun b hb => (I.stack.mem hb).2
  have up : ∀ b ∈ frs X.stack, ∀ o, s.heap.get? b = some o → ∃ sl, h2.get? b = some { o with slots := sl } := fun b hb o e => by
    obtain ⟨o', e', d⟩ := frD b hb
    rw [e] at e'; cases e'
    obtain ⟨sl, q1⟩ := un.any (b := b) e (I.stkFree b hb) (by intro z; exact nomatch z)
    obtain ⟨sl', q2⟩ := hsl b _ q1 d
    exact ⟨sl', q2⟩
  refine I.call' (s' := { s1 with heap := h2 }) (ch := []) os ⟨fun b o e n hb _ => ?_, fun b o e n hb _ => up b hb o e, un.free, fun b o e _ => ?_, un.tups, un.frzs, un.tbls⟩ (fun b o e => ?_) bare fun b hb => absurd hb (by simp)
  · exact st b o (hB b o (un.keep b o e n hb (by intro z; exact nomatch z)) (.inr ⟨o, e⟩) hb)
  · by_cases hb : b ∈ frs X.stack
    · obtain ⟨sl, q⟩ := up b hb o e
      exact ⟨_, q⟩
    · obtain ⟨o', e'⟩ := un.there b o e (by intro z; exact nomatch z)
      exact ⟨o', st b o' (hB b o' e' (.inr ⟨o, e⟩) hb)⟩
  · have inB : ∀ c v, H1 c ≠ none → s1.heap.get? c = some v → h2.get? c = some v := fun c v hc q => st c v (hB c v q (.inl hc) fun z => by
      obtain ⟨o', e', _⟩ := frD c z
      exact hc (un.free c o' e' (I.stkFree c z) (by intro z; exact nomatch z)))
    refine (hok b o e).stay (fun c v hc q => inB c v ?_ q) (fun _ q => q) fun _ _ q => q
    rcases hc with z | z
    · rw [z, e]; simp
    · rw [z]; simp
/-- a caught exception, by its class -/
def excO (y : Addr) (cls : Value) : HO := .ext fun h => ∃ o vs, h.get? y = some o ∧ o.cls = cls ∧ o.data = .fields vs
theorem track_new {H1 : Hp} {s1 : Shared} {x : Addr} {cls : Value} {oe : Obj} {vs : Array Value} (I0 : Inv X pins σ H s) (I : Inv X pins σ H1 s1) (hx : ∀ o, s.heap.get? x ≠ some o) (hx1 : H1 x = none) (he : s1.heap.get? x = some oe) (hc : oe.cls = cls) (hd : oe.data = .fields vs)
    (hxl : x ≠ X.env.locals) (hxc : ∀ y c, X.env.cells.lookup y = some c → c ≠ x) : Inv X pins σ (upd H1 x (excO x cls)) s1 := by
  have hb : ∀ b u, X.s₀.heap.get? b = some u → b ∉ X.ex → b ≠ x := fun b u e hbx z => by
    obtain ⟨o', e'⟩ := I0.base.there b u e hbx
    rw [z] at e'
    exact hx o' e'
  refine ⟨I.ok, I.os, I.bare, ⟨I.base.keep, I.base.slot, fun b u e n hbx => ?_, I.base.there, fun b xs e => ?_, fun b u xs e => ?_, fun b ps e => ?_⟩, I.loc, I.cell, ?_, fun y c e => ?_, fun p hpp => ?_, fun b u e => ?_, I.len⟩
  · rw [upd_ne (hb b u e hbx)]; exact I.base.free b u e n hbx
  · have q := I.base.tups b xs e; rw [upd_ne (ne_of_none q hx1)]; exact q
  · have q := I.base.frzs b u xs e; rw [upd_ne (ne_of_none q hx1)]; exact q
  · obtain ⟨more, q⟩ := I.base.tbls b ps e; exact ⟨more, by rw [upd_ne (ne_of_none q hx1)]; exact q⟩
  · rw [upd_ne (Ne.symm hxl)]; exact I.free
  · rw [upd_ne (hxc y c e)]; exact I.freeC y c e
  · obtain ⟨a, b, c⟩ := I.pin p hpp
    refine ⟨a, ?_, c⟩
    rw [upd_ne (fun z => ?_)]; exact b
    have := (I0.pin p hpp).1
    rw [z] at this
    exact hx _ this
  · by_cases hbb : b = x
    · subst hbb; rw [upd_same] at e; cases e
      exact ⟨⟨oe, vs, he, hc, hd⟩, ⟨oe, he⟩, fun h1 h2 ⟨o, v, a, b, c⟩ k => ⟨o, v, k _ a, b, c⟩⟩
    · rw [upd_ne hbb] at e
      exact (I.hok b u e).stay (fun c v _ q => q) (fun c q => by rw [upd_ne (ne_of_none q hx1)]; exact q) fun c xs q => by rw [upd_ne (ne_of_none q hx1)]; exact q
/-- the name of the except is let go -/
theorem unbind_ok {i : Nat} {n : Str} {pos : Pos} {A : Around} {M : Model} {Er : Value → Shared → Prop} {Q : Unit → Shared → Prop} (I : Inv X pins σ H s) (hN : X.N.Nodup) (hi : X.N[i]? = some n) (hk : X.env.scope.names.lookup n = some .local)
    (h : ∀ s', Inv X pins (σ.set i none) H s' → Q () s') : wpAny M A (do bindName X.env n .none; unbindBehindTheSuite X.env n pos) Q Er s := by
  refine wpAny_bind (wpAny_bindName (store_ok (v := V.non) I hN hi (.inl hk) rfl (fun s1 I1 => ?_) (.inr hk)))
  unfold unbindBehindTheSuite
  refine wpAny_onRaise ?_
  obtain ⟨m, hn, hl⟩ := id I1.loc
  have hiσ : i < σ.length := by rw [I.len]; exact (List.getElem?_eq_some_iff.mp hi).1
  obtain ⟨u, ru, lk⟩ := hl i n .non hi (List.getElem?_set_self hiσ) (.inl hk)
  have hv : m n = some u := by
    rcases lk with ⟨_, z⟩ | ⟨z, _⟩
    · exact z
    · have hk' : X.env.kindOf n = some .local := hk
      rcases z with z | z
      · rw [hk'] at z; cases z
      · rw [hk'] at z; cases z
  have hcls : (X.env.scope.kind == .class || (X.env.scope.kind == .module && X.env.locals != X.env.globals)) = false := by rw [I.ok.kind]; rfl
  refine wpAny_unbindName_local hk hn hv hcls fun h' u' hn' hs => ?_
  have ne : ∀ b o, X.s₀.heap.get? b = some o → b ≠ X.env.locals := fun b o e => Nat.ne_of_lt (Nat.lt_of_lt_of_le (Heap.lt_size e) I.ok.above)
  refine h _ ⟨I1.ok, I1.os, I1.bare, ⟨fun b o e n hb hx => (hs.2 b (ne b o e)).trans (I1.base.keep b o e n hb hx), fun b o e n hb hx => ?_, I1.base.free, fun b o e hx => ?_, I1.base.tups, I1.base.frzs, I1.base.tbls⟩, ⟨_, hn', fun j y v' e1 e2 e3 => ?_⟩, fun y c e => ?_, I1.free, I1.freeC, fun p hp => ?_, fun b ob e => ?_, ?_⟩
  · obtain ⟨sl, e1⟩ := I1.base.slot b o e n hb hx
    exact ⟨sl, (hs.2 b (ne b o e)).trans e1⟩
  · obtain ⟨o', e1⟩ := I1.base.there b o e hx
    exact ⟨o', (hs.2 b (ne b o e)).trans e1⟩
  · by_cases hj : j = i
    · subst hj
      rw [List.getElem?_set_self hiσ] at e2
      cases e2
    · rw [List.getElem?_set_ne (Ne.symm hj)] at e2
      obtain ⟨u2, r2, q⟩ := hl j y v' e1 (by rw [List.getElem?_set_ne (Ne.symm hj)]; exact e2) e3
      refine ⟨u2, r2, ?_⟩
      rcases q with ⟨k, e⟩ | ⟨k, c, e, z⟩
      · refine .inl ⟨k, ?_⟩
        have : y ≠ n := fun e => hj (nodup_ix hN e1 (e ▸ hi))
        simp [this, e]
      · exact .inr ⟨k, c, e, z.sameBut hs (I1.cne y c e)⟩
  · obtain ⟨w', z⟩ := I1.cell y c e
    exact ⟨w', z.sameBut hs (I1.cne y c e)⟩
  · obtain ⟨e, n, ne', nf, d⟩ := I1.pin p hp
    exact ⟨(hs.2 p.1 ne').trans e, n, ne', nf, d⟩
  · refine (I1.hok b ob e).stay (fun c w' hc q => (hs.2 c ?_).trans q) (fun _ q => q) fun _ _ q => q
    rintro rfl
    rcases hc with z | z
    · rw [← z, I1.free] at e; cases e
    · rw [I1.free] at z; cases z
  · rw [List.length_set]; exact I.len
end
section
variable {X : Cx}
def tTry (K : PySem.W.Frag) (C : Addr) (i : Nat) (tb : XT → TS) (th : TS) : TS := fun D σ H =>
  tb (fun cls σ' H' => PySem.W.exmOne K cls (.ref C) = some true ∧ ∀ y, H' y = none →
    th { nx := fun σ H => D.nx (σ.set i none) H, rt := D.rt, bk := fun σ H => D.bk (σ.set i none) H, ct := fun σ H => D.ct (σ.set i none) H } (σ'.set i (some (.ref y))) (upd H' y (excO y cls))) D σ H
theorem ps_try {body suite : List Stmt} {b₀ : Stmt} {x n : Str} {C : Addr} {i : Nat} {tb : XT → TS} {th : TS} {np hpos pos : Pos} (hst : X.stack = X.env :: X.outer) (hfr : X.env.frame = some X.env.locals)
    (hb : ∀ pins E', PSs (Xt X pins E') body (tb E')) (hh : ∀ e, PSs (Xh X e) (b₀ :: suite) th) (hN : X.N.Nodup) (hi : X.N[i]? = some n) (hk : X.env.scope.names.lookup n = some .local) (hg : Gl X x) (hm : X.mg x = some (.ref C))
    (hdb : (x == ("__debug__" : Str)) = false := by decide) : PS X (.Try body [.ExceptHandler (some (.Name x np)) (some n) (b₀ :: suite) hpos] [] [] pos) (tTry X.K C i tb th) := by
  intro pins s σ H D I h
  refine wpAny_Try_except (wpAny_mono (hb pins _ [] s σ H D I.toT h) (fun f s1 h1 => ?_) fun e s1 h1 => ?_)
  · cases f with
    | next => obtain ⟨σ', H', J, q⟩ := h1; exact wpAny_execs_nil ⟨σ', H', J.ofT, q⟩
    | brk => obtain ⟨σ', H', J, q⟩ := h1; exact ⟨σ', H', J.ofT, q⟩
    | cont => obtain ⟨σ', H', J, q⟩ := h1; exact ⟨σ', H', J.ofT, q⟩
    | ret u => obtain ⟨v, σ', H', J, r, q⟩ := h1; exact ⟨v, σ', H', J.ofT, r, q⟩
  · obtain ⟨σ0, H0, s0, I0, y, cls, a0, H1, B, rfl, os, bare, un, hok, hfl, hB, hx, hx1, em, q⟩ := h1
    have frames : X.A.frames = some (X.env :: X.outer) := by rw [← hst]; exact I0.ok.frames
    rw [hst] at hfl
    refine wpAny_looks_onW frames hfr hfl fun h4 held4 sm4 => wpAny_landsW held4 fun h5 fl5 sm5 => ?_
    have I5 : Inv X pins σ0 H1 { s1 with heap := h5 } := I0.flown os bare un hok hB fl5.1 (sm4.trans sm5)
    refine wpAny_handleBy_cons (codeAny_handlers_test (ld_glob (X := Xh X (.ref y)) (I5.toH) hg hm ?_ hdb)) (by intro q; cases q)
    obtain ⟨ob, hob, hobc⟩ := fl5.there
    have LT : PySem.W.Looks (model X.prog X.w) h5 (typeOf (.ref y)) cls := hobc ▸ (PySem.W.Looks.ld hob).andThen .now
    refine (PySem.W.exm_one (M := model X.prog X.w) I5.kIn LT em) _ _ _ _ (fun _ _ e => e) ?_
    refine codeAny_handlers_suite_as ?_
    refine lands_againW fl5 fun h6 fl6 sm6 => ?_
    have I6 : Inv X pins σ0 H1 { s1 with heap := h6 } := I0.flown os bare un hok hB fl6.1 ((sm4.trans sm5).trans sm6)
    obtain ⟨_, _, _, oe, vs, T, oT, ts, he, hc, hd, _⟩ := id fl6
    have hyl : y ≠ X.env.locals := fun z => by
      obtain ⟨m, ⟨o, es, ep, ho, hod, _⟩, _⟩ := I0.loc
      rw [← z] at ho
      exact hx o ho
    have hyc : ∀ z c, X.env.cells.lookup z = some c → c ≠ y := fun z c e t => by
      obtain ⟨v, o, ho, _⟩ := I0.cell z c e
      rw [t] at ho
      exact hx o ho
    have I6t := track_new (s1 := { s1 with heap := h6 }) I0 I6 hx hx1 he hc.1 hd hyl hyc
    refine store_ok (X := Xh X (.ref y)) (v := V.ref y) (I6t.toH) hN hi (.inl hk) rfl (fun s7 I7 => ?_) (.inr hk)
    refine wpAny_mono (hh (.ref y) pins s7 _ _ _ I7 (q y hx1)) (fun f s8 h8 => ?_) fun _ _ z => z.elim
    cases f with
    | next => obtain ⟨σ8, H8, J, q8⟩ := h8; exact unbind_ok (J.ofH I.ok) hN hi hk fun s9 J9 => ⟨_, _, J9, q8⟩
    | brk => obtain ⟨σ8, H8, J, q8⟩ := h8; exact unbind_ok (J.ofH I.ok) hN hi hk fun s9 J9 => ⟨_, _, J9, q8⟩
    | cont => obtain ⟨σ8, H8, J, q8⟩ := h8; exact unbind_ok (J.ofH I.ok) hN hi hk fun s9 J9 => ⟨_, _, J9, q8⟩
    | ret u => obtain ⟨v, σ8, H8, J, r, q8⟩ := h8; exact unbind_ok (J.ofH I.ok) hN hi hk fun s9 J9 => ⟨v, _, _, J9, r, q8⟩
/-- a call in a try's body -/
def tCallT (sp : Sp) (dvs : List V) (E' : XT) (t : TA) : TE := fun σ H Q => t σ H fun vs H1 => sp (vs ++ dvs) H1 Q fun cls _ H' => E' cls σ H'
end
end L2

namespace L2
open PySem PySem.W PySem.Spec PyProof.Rows
/-! ### isinstance of a caught exception -/
structure ExI (K : Frag) (C : Addr) : Prop where
  ex : ExC K C
  ca : findIn K (.ref C) "__class__" = some (some (.builtin "object.__class__"))
  mo : mroIn K C (.type "object") = some true
section
variable {prog : Program} {w : World} {A : Around} {E : Value → Shared → Prop} {h : Heap} {g : Array GenState} {d : Drawn} {t : Nat} {os : OsState} {a : Addr} {o : Obj} {vs : Array Value} {K : Frag} {C : Addr}
theorem exq_get {R : Result → Shared → Prop} {tp : Value} (X : K.In h) (O : ExI K C) (hx : h.get? a = some o) (hc : o.cls = .ref C) (hq : R (.ok (.ret (.ref C))) ⟨h, g, d, t, os⟩) :
    codeAny (model prog w) A (.call (.builtin "getset_descriptor.__get__") ⟨[.builtin "object.__class__", .ref a, tp], []⟩) R ⟨h, g, d, t, os⟩ := by
  have L0 : Looks (model prog w) h (typeOf (.ref a)) (.ref C) := hc ▸ (Looks.ld hx).andThen .now
  have L1 := looks_mroIn (M := model prog w) X O.mo
  refine codeAny_call_builtin KF.slot_gs.plain KF.entry_gs (KF.slot_gs.check _ _ _ _ _ _ _ _ KF.type_class (KF.args_gs _ _ _) ?_)
  unfold Builtin.«getset_descriptor.__get__» Builtin.Getset_descriptor.descrGet
  rw [dga_obj]
  refine wpAny_bind (wpAny_pure ?_)
  unfold Builtin.Getset_descriptor.descrGetter Builtin.Getset_descriptor.descrCheckInstance Builtin.Getset_descriptor.descrNameAndClass isInstance
  simp only [KF.owner_class]
  repeat lk
  refine ⟨Code.quiet_builtin _ (by decide +kernel), codeAny_builtin KF.entry_class ?_⟩
  unfold Builtin.«object.__class__» shownTypeOf
  repeat lk
  exact hq
theorem exq_entry {tk : Tok} {Q : PySem.Fin → Shared → Prop} (X : K.In h) (O : ExI K C) (hx : h.get? a = some o) (hc : o.cls = .ref C) (hq : Q (.done (.ret (.ref C))) ⟨h, g, d, t, os⟩) :
    wpAny (model prog w) A (Builtin.«object.__getattribute__» ⟨[.ref a, .str "__class__" tk], []⟩) Q E ⟨h, g, d, t, os⟩ := by
  have L2 := looks_findIn (M := model prog w) X O.ca
  have f5 := KF.type_class
  have f6 := KF.slot_gs.lookup
  have f7 := PySem.F.slot_gs_set.lookup
  repeat (any_goals (first | assumption | (with_reducible refine wpAny_loadPart_at hx ?_; rw [hc]) | with_reducible refine L2.at ?_ | wp_step))
  refine exq_get X O hx hc ?_
  repeat (any_goals (first | assumption | wp_step))
theorem exq_call {tk : Tok} {R : Result → Shared → Prop} (X : K.In h) (O : ExI K C) (hx : h.get? a = some o) (hc : o.cls = .ref C) (hq : R (.ok (.ret (.ref C))) ⟨h, g, d, t, os⟩) :
    codeAny (model prog w) A (.call (.builtin "BaseException.__getattribute__") ⟨[.ref a, .str "__class__" tk], []⟩) R ⟨h, g, d, t, os⟩ := by
  obtain ⟨nm, q, N, bs, bm, hdct, sn, sub, ab, col, dd, k0, k1, k2, k3, k5, mN, Oe⟩ := O.ex.ex
  obtain ⟨hC, hN, hmN, T⟩ := Oe h X
  exact codeAny_call_builtin PySem.F.attrBase_ValueError.ga.plain PySem.F.entry_bexc_ga (wpAny_check_ga_own PySem.F.attrBase_ValueError hC T hx hc (exq_entry X O hx hc hq))
theorem exq_by {tk : Tok} {fill expr : Bool} {Q : Value → Shared → Prop} (X : K.In h) (O : ExI K C) (hx : h.get? a = some o) (hc : o.cls = .ref C) (hq : Q (.ref C) ⟨h, g, d, t, os⟩) :
    wpAny (model prog w) A (getAttrBy (.ref a) (.str "__class__" tk) fill expr) Q E ⟨h, g, d, t, os⟩ := by
  obtain ⟨nm, q, N, bs, bm, hdct, sn, sub, ab, col, dd, k0, k1, k2, k3, k5, mN, Oe⟩ := O.ex.ex
  obtain ⟨hC, hN, hmN, T⟩ := Oe h X
  have FB := PySem.F.attrBase_ValueError
  have f3 := FB.ga.bind (.ref a)
  have hx0 : (expr && onTheHeap (Value.builtin "BaseException.__getattribute__")) = false := by cases expr <;> rfl
  have hx2 : (Value.builtin "BaseException.__getattribute__" == Value.builtin "object.__getattribute__") = false := by decide +kernel
  have hx1 : (onTheHeap (Value.ref C) && Value.builtin "BaseException.__getattribute__" == Value.builtin "object.__getattribute__") = false := by rw [hx2]; rfl
  have hm1 : ("__getattribute__" : Str) ∈ quietNames := .tail _ (.head _)
  have hm2 : ("__getattr__" : Str) ∈ quietNames := .tail _ (.tail _ (.head _))
  repeat (any_goals (first | assumption | (with_reducible refine wpAny_loadPart_at hx ?_; rw [hc]) | with_reducible refine wpAny_typeLookup_tailQ hm1 hC hN hmN T FB.mro FB.ga.lookup ?_ | with_reducible refine wpAny_typeLookup_tailQ hm2 hC hN hmN T FB.mro FB.noGetattr ?_ | wp_step))
  refine exq_call X O hx hc ?_
  repeat (any_goals (first | assumption | wp_step))
theorem exq_attr {Q : Option Value → Shared → Prop} (X : K.In h) (O : ExI K C) (hx : h.get? a = some o) (hc : o.cls = .ref C) (hq : Q (some (.ref C)) ⟨h, g, d, t + 1, os⟩) :
    wpAny (model prog w) A (getAttr? (.ref a) "__class__") Q E ⟨h, g, d, t, os⟩ := by
  unfold getAttr? getAttrBy?
  repeat (any_goals (first | assumption | with_reducible apply exq_by X O hx hc | wp_step))
theorem kitx_exc (O : ExI K C) : KitX K (.ref a) (.ref C) (fun h => ∃ o vs, h.get? a = some o ∧ o.cls = .ref C ∧ o.data = .fields vs) where
  ty := fun _ _ _ ⟨o, vs, h1, h2, _⟩ => h2 ▸ (Looks.ld h1).andThen .now
  it := fun M h X _ => by
    obtain ⟨nm, q, N, bs, bm, hdct, sn, sub, ab, col, dd, k0, k1, k2, k3, k5, mN, Oe⟩ := O.ex.ex
    obtain ⟨hC, _⟩ := Oe h X
    intro A' Q' E' s' k q
    unfold isType loadHead
    exact wpAny_bind (wpAny_loadPart (k _ _ hC) (wpAny_pure q))
  ne := fun h tp dd its n sl X htp => by
    obtain ⟨nm, q, N, bs, bm, hdct, sn, sub, ab, col, dd', k0, k1, k2, k3, k5, mN, Oe⟩ := O.ex.ex
    obtain ⟨hC, _⟩ := Oe h X
    refine Bool.eq_false_iff.mpr fun q => ?_
    have e : C = tp := Value.ref.inj (beq_iff_eq.mp q)
    subst e
    have z := congrArg Obj.data (Option.some.inj (hC.symm.trans htp))
    exact nomatch z
  ca := fun {_ _ _ _ _ s} X ⟨o, vs, h1, h2, _⟩ k => by
    obtain ⟨h, g, d, t, os⟩ := s
    exact exq_attr X O h1 h2 k
end
/-- the value of a class's name -/
def clsV : V → Value
  | .ref a => .ref a
  | .ty n => .type n
  | _ => .none
def rIsx (K : Frag) : List V → Hp → VK → Prop := fun xs H Q => ∃ y c C b, xs = [.ref y, c] ∧ clsV c ≠ .none ∧ H y = some (excO y (.ref C)) ∧ ExI K C ∧ kitOne K (.ref C) (clsV c) = some b ∧ Q (.bl b) H
theorem call_isx {X : Cx} : CallR X (.builtin "isinstance") (rIsx X.K) := by
  intro pins s σ H xs us Q I r h
  obtain ⟨y, c, C, b, rfl, hc, hy, O, e, q⟩ := h
  obtain ⟨u, v, rfl, ru, rv⟩ := vals2 r
  cases ru
  have hv : v = clsV c := by
    cases c with
    | ref a => exact rv
    | ty n => exact rv
    | _ => exact absurd rfl hc
  rw [hv]
  obtain ⟨φ, _, _⟩ := I.hok y _ hy
  exact kia_one (kitx_exc O) I.kIn φ e (fun z => nomatch z) fun tk => ⟨.bl b, H, I.tok tk, rfl, q⟩
end L2
namespace L2
open PySem PySem.Spec PyProof.Rows
/-- a constant of the module -/
theorem pe_globV {X : Cx} {x : Str} {v : V} {pos : Pos} (hg : Gl X x) (h : ∃ u, X.mg x = some u ∧ RelV v u) (hd : (x == ("__debug__" : Str)) = false := by decide) : PE X (.Name x pos) (tC v) :=
  let ⟨_, hm, r⟩ := h
  pe_glob hg hm r hd
/-- an answer about a caught exception -/
theorem isx_ {K : PySem.W.Frag} {H : Hp} {Q : VK} {y C : Addr} {c : V} {b : Bool} (hy : H y = some (excO y (.ref C))) (O : ExI K C) (e : PySem.W.kitOne K (.ref C) (clsV c) = some b) (hc : clsV c ≠ .none) (q : Q (.bl b) H) : rIsx K [.ref y, c] H Q :=
  ⟨y, c, C, b, rfl, hc, hy, O, e, q⟩
theorem clsV_ref {a : Addr} : clsV (.ref a) ≠ .none := by intro h; cases h
end L2

namespace L2
open PySem PySem.Spec PyProof.Rows
/-! ### == of two lists of plain values -/
def eqL : List V → List V → Bool
  | [], [] => true
  | x :: xs, y :: ys => eqV x y && eqL xs ys
  | _, _ => false
theorem eqL_len : ∀ {xs ys : List V}, eqL xs ys = true → xs.length = ys.length
  | [], [], _ => rfl
  | _ :: _, _ :: _, h => by
    unfold eqL at h
    rw [Bool.and_eq_true] at h
    simp [eqL_len h.2]
  | [], _ :: _, h => by cases h
  | _ :: _, [], h => by cases h
def rEqL (K : PySem.W.Frag) : R2 := fun x y H Q => ∃ a b xs ys, x = .ref a ∧ y = .ref b ∧ SqL K H a xs ∧ SqL K H b ys ∧ xs.all flatV = true ∧ ys.all flatV = true ∧ Q (.bl (eqL xs ys)) H
theorem eqL_all : ∀ {xs ys : List V}, xs.length = ys.length → (List.range xs.length).all (fun j => eqV (xs.getD j .non) (ys.getD j .non)) = eqL xs ys
  | [], [], _ => rfl
  | x :: xs, y :: ys, h => by
    have ih := eqL_all (xs := xs) (ys := ys) (by simpa using h)
    rw [List.length_cons, List.range_succ_eq_map, List.all_cons, List.all_map]
    show (eqV x y && (List.range xs.length).all (fun j => eqV (xs.getD j .non) (ys.getD j .non))) = (eqV x y && eqL xs ys)
    rw [ih]
  | [], _ :: _, h => by simp at h
  | _ :: _, [], h => by simp at h
end L2
namespace L2
open PySem PySem.Spec PyProof.Rows
/-! ### xs[::-1] -/
def tRev (K : PySem.W.Frag) (te : TE) (ts : TO) : TE := fun σ H Q => te σ H fun x H1 => ts σ H1 fun k H2 => k = some (-1) ∧ ∃ a xs, x = .ref a ∧ SqL K H2 a xs ∧ ∀ p, H2 p = none → Q (.ref p) (upd H2 p (.lst xs.reverse))
end L2
namespace L2
/-- rising from one to the next, within bounds -/
theorem Shaft.of {ds : List Int} (l2 : 2 ≤ ds.length) (l6 : ds.length ≤ 6) (b : ∀ i, i < ds.length → 0 ≤ ds.getD i 0 ∧ ds.getD i 0 ≤ 500) (u : ∀ i, i + 1 < ds.length → ds.getD i 0 < ds.getD (i + 1) 0) : Shaft ds := by
  have get : ∀ i (h : i < ds.length), ds[i] = ds.getD i 0 := fun i h => by rw [List.getD_eq_getElem?_getD, List.getElem?_eq_getElem h]; rfl
  have up : ∀ k i, i + k + 1 < ds.length → ds.getD i 0 < ds.getD (i + k + 1) 0 := by
    intro k
    induction k with
    | zero => intro i h; exact u i h
    | succ k ih =>
      intro i h
      have h1 := ih i (by omega)
      have h2 := u (i + k + 1) (by omega)
      rw [show i + (k + 1) + 1 = i + k + 1 + 1 by omega]
      omega
  refine ⟨l2, l6, fun d hd => ?_, fun d hd => ?_, List.pairwise_iff_getElem.mpr fun i j hi hj hij => ?_⟩
  · obtain ⟨i, hi, rfl⟩ := List.getElem_of_mem hd
    rw [get i hi]; exact (b i hi).1
  · obtain ⟨i, hi, rfl⟩ := List.getElem_of_mem hd
    rw [get i hi]; exact (b i hi).2
  · rw [get i hi, get j hj]
    have := up (j - i - 1) i (by omega)
    rw [show i + (j - i - 1) + 1 = j by omega] at this
    exact this
end L2
namespace L2
/-- a list of ints, of at most n -/
def IntL (l : List V) (n : Nat) : Prop := ∃ xs : List Int, l = xs.map V.int ∧ xs.length ≤ n
theorem IntL.len {l : List V} {n : Nat} (h : IntL l n) : l.length ≤ n := by obtain ⟨xs, rfl, h⟩ := h; rw [List.length_map]; exact h
theorem IntL.mono {l : List V} {n m : Nat} (h : IntL l n) (hm : n ≤ m) : IntL l m := by obtain ⟨xs, e, h⟩ := h; exact ⟨xs, e, Nat.le_trans h hm⟩
theorem IntL.one (i : Int) : IntL [.int i] 1 := ⟨[i], rfl, Nat.le_refl _⟩
theorem IntL.app {l k : List V} {n m : Nat} (h : IntL l n) (g : IntL k m) : IntL (l ++ k) (n + m) := by
  obtain ⟨xs, rfl, h⟩ := h
  obtain ⟨ys, rfl, g⟩ := g
  exact ⟨xs ++ ys, by rw [List.map_append], by rw [List.length_append]; omega⟩
theorem IntL.fits {l : List V} {n : Nat} (h : IntL l n) (hn : n ≤ 1000) : l.length ≤ PySem.sizeLine := Nat.le_trans h.len (Nat.le_of_lt (small1000 hn))
end L2

namespace L2
open PySem PySem.W PySem.Spec PyProof.Rows
/-! ### isinstance by the kinds of plain values, lists, tuples -/
def tyName : V → Option String
  | .non => some "NoneType"
  | .bl _ => some "bool"
  | .int _ => some "int"
  | .str _ => some "str"
  | _ => none
def TyX (K : Frag) (H : Hp) (x : V) (T : String) : Prop := tyName x = some T ∨ (∃ a xs, x = .ref a ∧ SqL K H a xs ∧ T = "list") ∨ ∃ a xs, x = .ref a ∧ SqT K H a xs ∧ T = "tuple"
def tyNames : List String := ["NoneType", "bool", "int", "str", "list", "tuple"]
def subB (T n : String) : Bool := T == n || (T == "bool" && n == "int")
theorem kit_sub {K : Frag} {T n : String} (hT : T ∈ tyNames) (hn : n ∈ tyNames) : kitOne K (.type T) (.type n) = some (subB T n) := by
  simp only [tyNames, List.mem_cons, List.not_mem_nil, or_false] at hT hn
  rcases hT with rfl | rfl | rfl | rfl | rfl | rfl <;> rcases hn with rfl | rfl | rfl | rfl | rfl | rfl <;> with_unfolding_all rfl
theorem kit_any {K : Frag} {T : String} (hT : T ∈ tyNames) : ∀ {ns : List String}, (∀ n ∈ ns, n ∈ tyNames) → kitAny K (.type T) (ns.map Value.type) = some (ns.any (subB T))
  | [], _ => rfl
  | n :: r, h => by
    have ih := kit_any (K := K) hT (ns := r) fun m hm => h m (List.mem_cons_of_mem _ hm)
    rw [List.map_cons, List.any_cons]
    unfold kitAny
    rw [kit_sub hT (h n List.mem_cons_self)]
    cases e : subB T n with
    | true => rfl
    | false => rw [Bool.false_or]; exact ih
section
variable {X : Cx} {pins : List (Addr × Obj)} {σ : St} {H : Hp} {s : Shared}
theorem tyX_names {K : Frag} {x : V} {T : String} (h : TyX K H x T) : T ∈ tyNames := by
  rcases h with h | ⟨_, _, _, _, rfl⟩ | ⟨_, _, _, _, rfl⟩
  · cases x <;> simp only [tyName, Option.some.injEq, reduceCtorEq] at h <;> subst h <;> decide
  · decide
  · decide
theorem kitx_any (I : Inv X pins σ H s) {x : V} {u : Value} {T : String} (rx : RelV x u) (ty : TyX X.K H x T) : ∃ φ : Heap → Prop, KitX X.K u (.type T) φ ∧ φ s.heap ∧ u ≠ .builtin "__main__.__loader__#opaque" := by
  rcases ty with h | ⟨a, xs, rfl, h, rfl⟩ | ⟨a, xs, rfl, h, rfl⟩
  · cases x with
    | non => cases rx; cases h; exact ⟨_, kitx_none, trivial, fun z => nomatch z⟩
    | bl b => cases rx; cases h; exact ⟨_, kitx_bool, trivial, fun z => nomatch z⟩
    | int i => obtain ⟨t, rfl⟩ := rx; cases h; exact ⟨_, kitx_int, trivial, fun z => nomatch z⟩
    | str i => obtain ⟨t, rfl⟩ := rx; cases h; exact ⟨_, kitx_str, trivial, fun z => nomatch z⟩
    | _ => cases h
  · cases rx
    obtain ⟨its, r, pl, hz⟩ := I.list h
    obtain ⟨o, ho, hc, _⟩ := pl.isList
    exact ⟨_, kitx_list, ⟨o, ho, hc⟩, fun z => nomatch z⟩
  · cases rx
    obtain ⟨its, r, ⟨o, ho, hc, _⟩, hz⟩ := I.tuple h
    exact ⟨_, kitx_tuple, ⟨o, ho, hc⟩, fun z => nomatch z⟩
def rIsiX (K : Frag) : List V → Hp → VK → Prop := fun xs H Q => ∃ x n T, xs = [x, .ty n] ∧ TyX K H x T ∧ n ∈ tyNames ∧ Q (.bl (subB T n)) H
theorem call_isiX : CallR X (.builtin "isinstance") (rIsiX X.K) := by
  intro pins s σ H xs us Q I r h
  obtain ⟨x, n, T, rfl, ty, hn, q⟩ := h
  obtain ⟨u, v, rfl, ru, rv⟩ := vals2 r
  cases rv
  obtain ⟨φ, Z, p, ne⟩ := kitx_any I ru ty
  exact kia_one Z I.kIn p (kit_sub (tyX_names ty) hn) ne fun tk => ⟨.bl _, H, I.tok tk, rfl, q⟩
def rIsiT (K : Frag) : List V → Hp → VK → Prop := fun xs H Q => ∃ (x : V) (tp : Addr) (ns : List String) (T : String), xs = [x, .ref tp] ∧ SqT K H tp (ns.map V.ty) ∧ TyX K H x T ∧ (∀ n ∈ ns, n ∈ tyNames) ∧ Q (.bl (ns.any (subB T))) H
theorem vals_ty : ∀ {ns : List String} {its : List Value}, Vals (ns.map V.ty) its → its = ns.map Value.type
  | [], _, h => by cases h; rfl
  | n :: r, _, h => by
    cases h with
    | cons a b => rw [vals_ty b]; cases a; rfl
theorem call_isiT : CallR X (.builtin "isinstance") (rIsiT X.K) := by
  intro pins s σ H xs us Q I r h
  obtain ⟨x, tp, ns, T, rfl, ht, ty, hn, q⟩ := h
  obtain ⟨u, v, rfl, ru, rv⟩ := vals2 r
  cases rv
  obtain ⟨φ, Z, p, ne⟩ := kitx_any I ru ty
  obtain ⟨its, rt, ⟨o, ho, hc, n, hd⟩, hz⟩ := I.tuple ht
  obtain rfl := vals_ty rt
  obtain ⟨c, d, dt, sl⟩ := o
  dsimp only at hc hd
  subst hc hd
  exact kia_tup Z I.kIn p ho (kit_any (tyX_names ty) hn) ne fun tk => ⟨.bl _, H, I.tok tk, rfl, q⟩
end
/-! ### values by their shape -/
inductive Dt where
  | flat (v : V)
  | lst (ds : List Dt)
  | tup (ds : List Dt)
inductive Rep (K : Frag) (H : Hp) : Nat → V → Dt → Prop
  | flat {n : Nat} {v : V} (h : flatV v = true) : Rep K H n v (.flat v)
  | lst {n : Nat} {a : Addr} {xs : List V} {ds : List Dt} (hs : SqL K H a xs) (hb : xs.length ≤ 100000) (hl : xs.length = ds.length) (hr : ∀ (i : Nat) x d, xs[i]? = some x → ds[i]? = some d → Rep K H n x d) : Rep K H (n + 1) (.ref a) (.lst ds)
  | tup {n : Nat} {a : Addr} {xs : List V} {ds : List Dt} (hs : SqT K H a xs) (hb : xs.length ≤ 100000) (hl : xs.length = ds.length) (hr : ∀ (i : Nat) x d, xs[i]? = some x → ds[i]? = some d → Rep K H n x d) : Rep K H (n + 1) (.ref a) (.tup ds)
theorem Same.tup {K : Frag} {H H' : Hp} {a : Addr} {xs : List V} (e : Same H H') (h : SqT K H a xs) : SqT K H' a xs := by
  rcases h with (h | ⟨o, h⟩) | h
  · exact .inl (.inl (e _ _ h))
  · exact .inl (.inr ⟨o, e _ _ h⟩)
  · exact .inr h
theorem Rep.same {K : Frag} {H H' : Hp} (s : Same H H') {n : Nat} {x : V} {d : Dt} (h : Rep K H n x d) : Rep K H' n x d := by
  induction h with
  | flat h => exact .flat h
  | lst hs hb hl _ ih => exact .lst (s.seq hs) hb hl ih
  | tup hs hb hl _ ih => exact .tup (s.tup hs) hb hl ih
theorem Rep.up {K : Frag} {H : Hp} {n : Nat} {x : V} {d : Dt} (h : Rep K H n x d) : Rep K H (n + 1) x d := by
  induction h with
  | flat h => exact .flat h
  | lst hs hb hl _ ih => exact .lst hs hb hl ih
  | tup hs hb hl _ ih => exact .tup hs hb hl ih
/-- a def of which nothing is asked -/
theorem fn_false {P : Program} {w : World} {K : Frag} {mg : Str → Option Value} {base : Heap} {CX : CXT} {k : Nat} {f : Addr} {fd : FuncData} {ps : List Str} : FnOk P w K mg base CX k f fd ps (fun _ _ _ _ => False) :=
  ⟨fun _ _ _ _ h => h.elim, fun _ _ _ _ _ _ _ _ _ _ _ _ _ h => h.elim⟩
theorem atI_of {α : Type} {xs : List α} {k : Nat} {v : α} (h : xs[k]? = some v) : atI xs (k : Int) = some v := atI_nat h
end L2

namespace L2
open PySem PySem.Spec PyProof.Rows
/-! ### loads: a list of tuples (kind, level, goal) -/
abbrev Ld := Str × Int × Int
def ldV (x : Ld) : List V := [.str x.1, .int x.2.1, .int x.2.2]
def Tups (K : PySem.W.Frag) (H : Hp) (as : List Addr) (ls : List Ld) : Prop := as.length = ls.length ∧ ∀ (i : Nat) a x, as[i]? = some a → ls[i]? = some x → SqT K H a (ldV x)
def LoadsAt (K : PySem.W.Frag) (H : Hp) (l : Addr) (ls : List Ld) : Prop := ∃ as : List Addr, SqL K H l (as.map V.ref) ∧ Tups K H as ls
def GoodLd (m : Int) (x : Ld) : Prop := (0 ≤ x.2.1 ∧ x.2.1 < m) ∧ (0 ≤ x.2.2 ∧ x.2.2 < m)
theorem Tups.same {K : PySem.W.Frag} {H H' : Hp} {as : List Addr} {ls : List Ld} (s : Same H H') (h : Tups K H as ls) : Tups K H' as ls := ⟨h.1, fun i a x e1 e2 => s.tup (h.2 i a x e1 e2)⟩
theorem LoadsAt.same {K : PySem.W.Frag} {H H' : Hp} {l : Addr} {ls : List Ld} (s : Same H H') (h : LoadsAt K H l ls) : LoadsAt K H' l ls := by
  obtain ⟨as, a, b⟩ := h
  exact ⟨as, s.seq a, b.same s⟩
theorem Tups.nil {K : PySem.W.Frag} {H : Hp} : Tups K H [] [] := ⟨rfl, fun i a x e _ => by simp at e⟩
theorem Tups.app {K : PySem.W.Frag} {H : Hp} {as bs : List Addr} {ls ks : List Ld} (h : Tups K H as ls) (g : Tups K H bs ks) : Tups K H (as ++ bs) (ls ++ ks) := by
  refine ⟨by rw [List.length_append, List.length_append, h.1, g.1], fun i a x e1 e2 => ?_⟩
  by_cases hi : i < as.length
  · rw [List.getElem?_append_left hi] at e1
    rw [List.getElem?_append_left (by rw [← h.1]; exact hi)] at e2
    exact h.2 i a x e1 e2
  · rw [List.getElem?_append_right (by omega)] at e1
    rw [List.getElem?_append_right (by rw [← h.1]; omega), ← h.1] at e2
    exact g.2 _ a x e1 e2
theorem Tups.one {K : PySem.W.Frag} {H : Hp} {a : Addr} {x : Ld} (h : SqT K H a (ldV x)) : Tups K H [a] [x] := by
  refine ⟨rfl, fun i b y e1 e2 => ?_⟩
  cases i with
  | zero => cases e1; cases e2; exact h
  | succ i => simp at e1
theorem Tups.take {K : PySem.W.Frag} {H : Hp} {as : List Addr} {ls : List Ld} (h : Tups K H as ls) (n : Nat) : Tups K H (as.take n) (ls.take n) := by
  refine ⟨by rw [List.length_take, List.length_take, h.1], fun i a x e1 e2 => ?_⟩
  rw [List.getElem?_take] at e1 e2
  split at e1
  · rename_i hi
    rw [if_pos hi] at e2
    exact h.2 i a x e1 e2
  · cases e1
theorem Tups.drop {K : PySem.W.Frag} {H : Hp} {as : List Addr} {ls : List Ld} (h : Tups K H as ls) (n : Nat) : Tups K H (as.drop n) (ls.drop n) := by
  refine ⟨by rw [List.length_drop, List.length_drop, h.1], fun i a x e1 e2 => ?_⟩
  rw [List.getElem?_drop] at e1 e2
  exact h.2 _ a x e1 e2
theorem SqT.rew {K : PySem.W.Frag} {H : Hp} {a l : Addr} {xs ys : List V} {o : HO} (h : SqT K H a xs) (hl : H l = some (.lst ys)) : SqT K (upd H l o) a xs := by
  rcases h with (h | ⟨o', h⟩) | h
  · refine .inl (.inl ?_)
    rw [upd_ne (fun e => by rw [e, hl] at h; cases h)]; exact h
  · refine .inl (.inr ⟨o', ?_⟩)
    rw [upd_ne (fun e => by rw [e, hl] at h; cases h)]; exact h
  · exact .inr h
theorem Tups.rew {K : PySem.W.Frag} {H : Hp} {as : List Addr} {ls : List Ld} {l : Addr} {ys : List V} {o : HO} (h : Tups K H as ls) (hl : H l = some (.lst ys)) : Tups K (upd H l o) as ls := ⟨h.1, fun i a x e1 e2 => (h.2 i a x e1 e2).rew hl⟩
/-! ### a comprehension by an invariant -/
theorem cj_inv {J : It} {g : TG} {tc : TT} {te : TE} {cm : List (Option Nat)} {σ : St} {Q : VK} {H : Hp} (n : Nat) (Pv : Nat → List V → Hp → Prop) (h0 : Pv 0 [] H)
    (hgo : ∀ i acc H, i < n → Pv i acc H → J.go i H) (hst : ∀ acc H, Pv n acc H → J.stop n H)
    (hs : ∀ i acc H, i < n → Pv i acc H → acc.length < sizeLine ∧ ∀ x H', J.yld i H x H' → ∀ M : List V → Hp → Prop, (∀ acc' H', Pv (i + 1) acc' H' → M acc' H') → g x (σof cm σ) H' fun σ2 H2 => Wk (σof cm σ) σ2 ∧ tc σ2 H2 fun b H3 => if b = true then te σ2 H3 fun v H4 => M (acc ++ [v]) H4 else M acc H3)
    (hd : ∀ acc H, Pv n acc H → ∀ p, H p = none → Q (.ref p) (upd H p (.lst acc))) : CompJ J g tc te cm σ Q H := by
  refine ⟨fun i m acc H => m = n - i ∧ i ≤ n ∧ Pv i acc H, ⟨n, by simp, Nat.zero_le _, h0⟩, ?_⟩
  rintro i m acc H ⟨rfl, hi, p⟩
  by_cases hlt : i < n
  · obtain ⟨hz, q⟩ := hs i acc H hlt p
    refine .inr ⟨hgo i acc H hlt p, hz, fun x H' y => q x H' y (fun acc' H4 => ∃ m', m' < n - i ∧ m' = n - (i + 1) ∧ i + 1 ≤ n ∧ Pv (i + 1) acc' H4) fun acc' H4 q => ⟨n - (i + 1), by omega, rfl, hlt, q⟩⟩
  · have e : i = n := by omega
    subst e
    exact .inl ⟨hst acc H p, hd acc H p⟩
theorem rep_flatT {K : PySem.W.Frag} {H : Hp} {a : Addr} {xs : List V} {n : Nat} (h : SqT K H a xs) (hb : xs.length ≤ 100000) (hf : ∀ x ∈ xs, flatV x = true) : Rep K H (n + 1) (.ref a) (.tup (xs.map Dt.flat)) := by
  refine .tup h hb (by rw [List.length_map]) fun i y d e1 e2 => ?_
  rw [List.getElem?_map, e1] at e2
  cases e2
  exact .flat (hf y (List.mem_of_getElem? e1))
end L2

namespace L2
open PySem PySem.Spec PyProof.Rows
/-! ### the table of a set that only grows: its places rise -/
def Ris (xs : List Nat) : Prop := xs.Pairwise (· < ·)
theorem Ris.lt {xs : Array Nat} (h : Ris xs.toList) {i k a b : Nat} (hik : i < k) (ha : xs[i]? = some a) (hb : xs[k]? = some b) : a < b := by
  rw [← Array.getElem?_toList] at ha hb
  obtain ⟨h1, rfl⟩ := List.getElem?_eq_some_iff.mp ha
  obtain ⟨h2, rfl⟩ := List.getElem?_eq_some_iff.mp hb
  exact List.pairwise_iff_getElem.mp h i k h1 h2 hik
def Tab (b : Bool) (t : SetTable) : Prop := (b = false → t.led = true) ∧ t.dummies = #[] ∧ Ris t.place.toList
section
variable {prog : Program} {w : World} {A : Around} {E : Value → Shared → Prop} {s : Shared}
def byT (w : World) : Bool := w.params.followText "set-order"
/-- what stands at a: these entries, that table -/
structure SetAt (prog : Program) (w : World) (h : Heap) (a : Addr) (o : Obj) (es : Array (Int × Value)) (ep : Nat) (t : SetTable) (S : Int → Bool) : Prop where
  at_ : h.get? a = some o
  ex : o.ExactSet
  dat : o.data = .set es ep t
  el : ElemsOf (intKind prog w) es.toList
  mem : ∀ k, S k = true ↔ ∃ e ∈ es.toList, (intKind prog w).is k e.2 = true
  sm : es.size < scanBound
  fit : t.fits es.size = true
  tab : Tab (byT w) t
def SetT (prog : Program) (w : World) (h : Heap) (a : Addr) (S : Int → Bool) (n : Nat) : Prop := ∃ o es ep t, SetAt prog w h a o es ep t S ∧ es.size = n
end
section
variable {prog : Program} {w : World}
theorem SetT.keep {h h' : Heap} {a : Addr} {S : Int → Bool} {n : Nat} (z : SetT prog w h a S n) (k : ∀ o, h.get? a = some o → h'.get? a = some o) : SetT prog w h' a S n := by
  obtain ⟨o, es, ep, t, z, hn⟩ := z
  exact ⟨o, es, ep, t, ⟨k o z.at_, z.ex, z.dat, z.el, z.mem, z.sm, z.fit, z.tab⟩, hn⟩
theorem SetT.as {h : Heap} {a : Addr} {S S' : Int → Bool} {n n' : Nat} (z : SetT prog w h a S n) (e : ∀ k, S k = S' k) (en : n = n') : SetT prog w h a S' n' := by
  have : S = S' := funext e
  subst this en
  exact z
variable {A : Around} {E : Value → Shared → Prop} {s : Shared}
end
section
variable {prog : Program} {w : World} {A : Around} {E : Value → Shared → Prop} {s : Shared}
end
end L2

namespace L2
open PySem PySem.Spec PyProof.Rows
section
variable {M : Model} {A : Around} {E : Value → Shared → Prop}
end
end L2

namespace L2
open PySem PySem.Spec PyProof.Rows
/-! ### an iterator of a set -/
def IsSI (h : Heap) (it : Addr) (first : Value) (i : Nat) (a : Addr) (n ep : Nat) : Prop := ∃ o, h.get? it = some o ∧ o.cls = .type "set_iterator" ∧ o.data = .fields #[first, rawInt i, .ref a, rawInt n, rawInt ep]
section
variable {prog : Program} {w : World} {A : Around} {E : Value → Shared → Prop} {s : Shared}
theorem IsSI.ty {it a : Addr} {first : Value} {i n ep : Nat} (h : IsSI s.heap it first i a n ep) : s.TypeIs (.ref it) "set_iterator" := by
  obtain ⟨o, ho, hc, _⟩ := h
  exact ⟨o, ho, hc⟩
theorem IsSI.keep {h h' : Heap} {it a : Addr} {first : Value} {i n ep : Nat} (z : IsSI h it first i a n ep) (k : ∀ o, h.get? it = some o → h'.get? it = some o) : IsSI h' it first i a n ep := by
  obtain ⟨o, ho, r⟩ := z
  exact ⟨o, k o ho, r⟩
end
end L2

namespace L2
open PySem PySem.Spec PyProof.Rows
section
variable {prog : Program} {w : World} {A : Around} {E : Value → Shared → Prop} {s : Shared} {a : Addr} {o : Obj} {es : Array (Int × Value)} {t : SetTable} {ep : Nat}
end
end L2

namespace L2
open PySem PySem.Spec PyProof.Rows
section
variable {prog : Program} {w : World} {A : Around} {E : Value → Shared → Prop} {s : Shared} {a : Addr} {o : Obj} {es : Array (Int × Value)} {t : SetTable} {ep : Nat} {S : Int → Bool}
end
end L2

namespace L2
open PySem PySem.Spec PyProof.Rows
section
variable {prog : Program} {w : World} {A : Around} {E : Value → Shared → Prop} {s : Shared} {a : Addr} {o : Obj} {es : Array (Int × Value)} {t : SetTable} {ep : Nat} {S : Int → Bool}
end
end L2

namespace L2
open PySem PySem.Spec PyProof.Rows
section
variable {prog : Program} {w : World} {A : Around} {E : Value → Shared → Prop} {s : Shared} {a : Addr}
end
section
variable {X : Cx} {e : Expr} {te : TE} {p1 p2 pos1 pos2 : Pos}
def tSortSet (K : PySem.W.Frag) (te : TE) : TE := fun σ H Q => te σ H fun x H1 => ∃ (a : Addr) (ns : List Int), x = .ref a ∧ SqL K H1 a (ns.map V.int) ∧ ns.length < 64 ∧
  ∀ (l : Addr) (ms : List Int), H1 l = none → ms.Pairwise (· < ·) → (∀ k, k ∈ ms ↔ k ∈ ns) → Q (.ref l) (upd H1 l (.lst (ms.map V.int)))
theorem Inv.draw {pins : List (Addr × Obj)} {σ : St} {H : Hp} {s : Shared} {d : Drawn} (J : Inv X pins σ H s) : Inv X pins σ H { s with drawn := d } :=
  ⟨J.ok, J.os, J.bare, J.base, J.loc, J.cell, J.free, J.freeC, J.pin, J.hok, J.len⟩
end
end L2

namespace L2
open PySem PySem.Spec PyProof.Rows
section
variable {X : Cx}
/-- several records of ours have turned -/
theorem Inv.turnedL {pins : List (Addr × Obj)} {σ : St} {H : Hp} {s : Shared} {h' : Heap} {t' : Nat} {fp : List Addr} (I : Inv X pins σ H s) (k : ∀ b o, b ∉ fp → s.heap.get? b = some o → h'.get? b = some o) (hf : ∀ b ∈ fp, FpOk X pins H b) :
    Inv X pins σ H { s with heap := h', toks := t' } := by
  have nit : ∀ b u, H b = some u → b ∉ fp := fun b u e z => by rw [(hf b z).1] at e; cases e
  refine I.step (g' := s.gens) (d' := s.drawn) (ch := fp) (fun b hb => ⟨(hf b hb).2.2.2.1, (hf b hb).2.1, (hf b hb).2.2.2.2.1, (hf b hb).2.2.2.2.2⟩) (fun b o _ _ hc e _ => k b o hc e) (fun b o _ _ hc e _ => ⟨o.slots, k b o hc e⟩) (fun _ _ _ _ n => n)
    (fun b o hc e => ⟨o, k b o hc e⟩) (fun _ _ e => e) (fun _ _ _ e => e) (fun b ps e => ⟨#[], by rw [e]; simp⟩) (fun m hm => ?_) (fun b u e => ?_) I.bare
  · obtain ⟨o, es, ep, ho, r⟩ := hm
    exact ⟨o, es, ep, k _ o (fun z => (hf _ z).2.1 rfl) ho, r⟩
  · refine (I.hok b u e).stay (fun c v hc q => k c v ?_ q) (fun _ q => q) fun _ _ q => q
    rcases hc with z | z
    · exact z ▸ nit b u e
    · exact nit c _ z
/-- .. and a tuple was made -/
theorem Inv.handed {pins : List (Addr × Obj)} {σ : St} {H : Hp} {s : Shared} {h' : Heap} {t' : Nat} {fp : List Addr} {xs : List V} {us : List Value} {T : Addr} {n : Nat} (I : Inv X pins σ H s) (k : ∀ b o, b ∉ fp → s.heap.get? b = some o → h'.get? b = some o) (hf : ∀ b ∈ fp, FpOk X pins H b)
    (hT : s.heap.objs.size ≤ T) (hz : xs.length ≤ sizeLine) (r : Vals xs us) (e : h'.get? T = some { cls := .type "tuple", data := .seq us.toArray n }) : Inv X pins σ (upd H T (.tup xs)) { s with heap := h', toks := t' } := by
  have I1 : Inv X pins σ H { s with heap := h', toks := t' } := I.turnedL k hf
  have hn : H T = none := I.hok.fresh hT
  obtain ⟨f0, f1, f2, f3, f4, f5⟩ := I.fpOk hT hn
  have h0 : X.s₀.heap.objs.size ≤ T := Nat.le_trans I.sz hT
  exact I1.track hn h0 f1 f4 f5 ⟨hz, us, r, ⟨_, e, ⟨rfl, _, rfl⟩, rfl⟩⟩
def Ite (K : PySem.W.Frag) (a : Addr) : It :=
  ⟨fun i H => ∃ xs x, SqL K H a xs ∧ xs[i]? = some x, fun i H y H' => ∃ t x, y = .ref t ∧ H t = none ∧ H' = upd H t (.tup [.int (i : Nat), x]) ∧ ∀ xs, SqL K H a xs → xs[i]? = some x, fun i H => ∃ xs, SqL K H a xs ∧ xs.length ≤ i⟩
def iEnum (K : PySem.W.Frag) (te : TE) : TI := fun σ H R => te σ H fun x H1 => ∃ a, x = .ref a ∧ (∃ xs, SqL K H1 a xs) ∧ R (Ite K a) H1
def Itz (K : PySem.W.Frag) (a b : Addr) : It :=
  ⟨fun i H => ∃ xs ys x y, SqL K H a xs ∧ SqL K H b ys ∧ xs[i]? = some x ∧ ys[i]? = some y, fun i H v H' => ∃ t x y, v = .ref t ∧ H t = none ∧ H' = upd H t (.tup [x, y]) ∧ (∀ xs, SqL K H a xs → xs[i]? = some x) ∧ ∀ ys, SqL K H b ys → ys[i]? = some y,
    fun i H => ∃ xs ys, SqL K H a xs ∧ SqL K H b ys ∧ (xs.length ≤ i ∨ ys.length ≤ i)⟩
theorem turn_zip {P : Program} {w : World} {K : PySem.W.Frag} {elts : List Expr} {x1 : Nat} {tpos : Pos} (l1 l2 z TI TO i1 i2 : Addr) (D : ZipApart z TI TO i1 i2 l1 l2) :
    Turn P w K (.Tuple elts x1 tpos) (Itz K l1 l2) [z, TI, TO, i1, i2] z (fun i h => IsZip h z TI TO .none ∧ IsPair h TI (.ref i1) (.ref i2) ∧ (∃ u v, IsPair h TO u v) ∧ h.IsListIter i1 l1 i ∧ h.IsListIter i2 l2 i) where
  mem := by simp
  obj := fun i h st b hb => by
    obtain ⟨h1, h2, ⟨u, v, h3⟩, ⟨o4, h4, _, d4⟩, ⟨o5, h5, _, d5⟩⟩ := st
    simp only [List.mem_cons, List.not_mem_nil, or_false] at hb
    rcases hb with rfl | rfl | rfl | rfl | rfl
    · exact ⟨_, h1, fun v z => by
        have z' : Data.fields _ = Data.cell v := z
        cases z'⟩
    · exact ⟨_, h2, fun v z => by
        have z' : Data.seq _ _ = Data.cell v := z
        cases z'⟩
    · exact ⟨_, h3, fun v z => by
        have z' : Data.seq _ _ = Data.cell v := z
        cases z'⟩
    · exact ⟨o4, h4, fun v z => by rw [d4] at z; cases z⟩
    · exact ⟨o5, h5, fun v z => by rw [d5] at z; cases z⟩
  keep := fun i h h' st k => by
    obtain ⟨h1, h2, ⟨u, v, h3⟩, h4, h5⟩ := st
    exact ⟨k z (by simp) _ h1, k TI (by simp) _ h2, ⟨u, v, k TO (by simp) _ h3⟩, h4.at fun o q => k i1 (by simp) o q, h5.at fun o q => k i2 (by simp) o q⟩
  item := by
    intro X hP hw hK hc i pins s σ H E I hf st hg
    subst hP hw hK
    obtain ⟨xs, ys, x, y, hq1, hq2, hx, hy⟩ := hg
    obtain ⟨its1, rv1, p1, hz1⟩ := I.list hq1
    obtain ⟨its2, rv2, p2, hz2⟩ := I.list hq2
    obtain ⟨u, hu, ru⟩ := rv1.get hx
    obtain ⟨v, hv, rv⟩ := rv2.get hy
    obtain ⟨h1, h2, ⟨c1, c2, h3⟩, h4, h5⟩ := st
    have lt : ∀ b ∈ [z, TI, TO, i1, i2], b < s.heap.objs.size := fun b hb => by
      simp only [List.mem_cons, List.not_mem_nil, or_false] at hb
      rcases hb with rfl | rfl | rfl | rfl | rfl
      · exact Heap.lt_size h1
      · exact Heap.lt_size h2
      · exact Heap.lt_size h3
      · obtain ⟨o, q, _⟩ := h4; exact Heap.lt_size q
      · obtain ⟨o, q, _⟩ := h5; exact Heap.lt_size q
    refine wpAny_pyNext_zip_item D h1 h2 h3 h4 h5 p1.isList p2.isList (x := u) (y := v) (by simpa using hu) (by simpa using hv) fun h' g1 g2 g3 g4 g5 g6 g7 => ?_
    have kf : ∀ b o, b ∉ [z, TI, TO, i1, i2] → s.heap.get? b = some o → h'.get? b = some o := fun b o hb q => g7 b o (fun e => hb (by simp [e])) (fun e => hb (by simp [e])) (fun e => hb (by simp [e])) (fun e => hb (by simp [e])) q
    have I1 : Inv X pins σ (upd H s.heap.objs.size (.tup [x, y])) { s with heap := h', toks := s.toks } := I.handed (us := [u, v]) kf hf (Nat.le_refl _) (by show 2 ≤ sizeLine; decide) (.cons ru (.cons rv .nil)) g5
    have hn : H s.heap.objs.size = none := I.hok.fresh (Nat.le_refl _)
    have hf1 : ∀ b ∈ [z, TI, TO, i1, i2], upd H s.heap.objs.size (.tup [x, y]) b = none := fun b hb => by
      rw [upd_ne (Nat.ne_of_lt (lt b hb))]
      exact (hf b hb).1
    refine ⟨_, rfl, wpAny_letOwnedTupleGo_zip (s := { s with heap := h' }) g1 fun h2' q1 q2 => ?_⟩
    have I2 : Inv X pins σ (upd H s.heap.objs.size (.tup [x, y])) { s with heap := h2', toks := s.toks } := I1.turnedL (s := { s with heap := h', toks := s.toks }) (t' := s.toks) (fp := [z, TI, TO, i1, i2]) (fun b o hb q => (q2.2 b (fun e => hb (by simp [e]))).trans q) fun b hb => ⟨hf1 b hb, (hf b hb).2⟩
    have k2 : ∀ b o, b ≠ z → h'.get? b = some o → h2'.get? b = some o := fun b o hb q => (q2.2 b hb).trans q
    have gTI : IsPair h' TI (.ref i1) (.ref i2) := g7 TI _ D.TIz D.TITO D.TIi1 D.TIi2 h2
    refine ⟨.ref s.heap.objs.size, _, I2, rfl, ⟨_, x, y, rfl, hn, rfl, fun zs hz => by rw [I.list_inj hz hq1]; exact hx, fun zs hz => by rw [I.list_inj hz hq2]; exact hy⟩, ⟨q1, k2 _ _ D.TIz gTI, ⟨u, v, k2 _ _ D.TOz g2⟩, g3.at fun o q => k2 _ _ D.i1z q, g4.at fun o q => k2 _ _ D.i2z q⟩, hf1⟩
  done := by
    intro X hP hw hK hc i pins s σ H E I hf st hg
    subst hP hw hK
    obtain ⟨xs, ys, hq1, hq2, hend⟩ := hg
    obtain ⟨its1, rv1, p1, hz1⟩ := I.list hq1
    obtain ⟨its2, rv2, p2, hz2⟩ := I.list hq2
    have hl1 := rv1.length
    have hl2 := rv2.length
    obtain ⟨h1, h2, ⟨c1, c2, h3⟩, h4, h5⟩ := st
    refine wpAny_pyNext_zip_end (I.ok.hd hc) D h1 h2 h3 h4 h5 p1.isList p2.isList ?_ fun h' eb => ⟨rfl, I.turnedL (t' := s.toks) (fun b o hb q => eb b o (fun e => hb (by simp [e])) (fun e => hb (by simp [e])) (fun e => hb (by simp [e])) (fun e => hb (by simp [e])) q) hf⟩
    rcases hend with e | e
    · left; simp; omega
    · right; simp; omega
  self := fun _ _ _ _ _ st h => wpAny_pyIter_zip st.1 h
def iZip (K : PySem.W.Frag) (ta tb : TE) : TI := fun σ H R => ta σ H fun x H1 => tb σ H1 fun y H2 => ∃ a b, x = .ref a ∧ y = .ref b ∧ (∃ xs, SqL K H2 a xs) ∧ (∃ ys, SqL K H2 b ys) ∧ R (Itz K a b) H2
theorem pi_zip {a b : Expr} {ta tb : TE} {p pos tpos : Pos} {elts : List Expr} {x1 : Nat} (hg : Gl X "zip") (hm : X.mg "zip" = none) (hb : bootBuiltins "zip" = some (.type "zip")) (ha : PE X a ta) (hb2 : PE X b tb) (hs : starEach [a, b] X.env = [(false, eval a X.env), (false, eval b X.env)] := by rfl) (hs2 : starEach [b] X.env = [(false, eval b X.env)] := by rfl) :
    PI X (.Tuple elts x1 tpos) (.Call (.Name "zip" p) [a, b] [] pos) (iZip X.K ta tb) := by
  intro pins s σ H R I h
  refine Call_ (ld_blt I hg hm hb (PyProof.Rows.callWith_type1 ?_ (by rw [hs, hs2]) (by rw [hs2]; rfl)))
  rw [hs]
  refine Calls.spliced_cons (thn (ha pins s σ H _ I h) fun u s1 ⟨x, H1, I1, r1, q1⟩ => ?_)
  refine Calls.spliced_cons (thn (hb2 pins s1 σ H1 _ I1 q1) fun v s2 ⟨y, H2, I2, r2, l1, l2, ex, ey, ⟨xs, hq1⟩, ⟨ys, hq2⟩, q⟩ => ?_)
  subst ex ey
  cases r1
  cases r2
  refine Calls.spliced_nil ?_
  obtain ⟨its1, rv1, p1, hz1⟩ := I2.list hq1
  obtain ⟨its2, rv2, p2, hz2⟩ := I2.list hq2
  have a1 : l1 < s2.heap.objs.size := by obtain ⟨o, q, _⟩ := p1.isList; exact Heap.lt_size q
  have a2 : l2 < s2.heap.objs.size := by obtain ⟨o, q, _⟩ := p2.isList; exact Heap.lt_size q
  refine call_zip_2 p1.isList p2.isList fun h' h1 h2 h3 h4 h5 h6 h7 => ?_
  refine wpAny_pyIter_zip h1 ?_
  have n0 : ∀ l : Nat, l < s2.heap.objs.size → ∀ k : Nat, l ≠ s2.heap.objs.size + k := fun l hl k => by omega
  have n1 : ∀ j k : Nat, j ≠ k → s2.heap.objs.size + j ≠ s2.heap.objs.size + k := fun j k hjk => by omega
  refine ⟨s2.heap.objs.size + 4, [s2.heap.objs.size + 4, s2.heap.objs.size + 2, s2.heap.objs.size + 3, s2.heap.objs.size + 0, s2.heap.objs.size + 1], _, _, H2, rfl, I2.kept (t' := s2.toks) h7,
    turn_zip l1 l2 _ _ _ _ _ ⟨n1 2 4 (by decide), n1 3 4 (by decide), n1 0 4 (by decide), n1 1 4 (by decide), n1 2 3 (by decide), n1 2 0 (by decide), n1 2 1 (by decide), n1 3 0 (by decide), n1 3 1 (by decide), n1 0 1 (by decide), n0 _ a1 4, n0 _ a1 3, n0 _ a1 0, n0 _ a1 1, n0 _ a2 4, n0 _ a2 3, n0 _ a2 0, n0 _ a2 1⟩, ⟨h1, h2, ⟨_, _, h3⟩, h4, h5⟩, fun b hb => ?_, q⟩
  have hle : s2.heap.objs.size ≤ b := by
    simp only [List.mem_cons, List.not_mem_nil, or_false] at hb
    rcases hb with rfl | rfl | rfl | rfl | rfl <;> exact Nat.le_add_right _ _
  exact I2.fpOk hle (I2.hok.fresh hle)
end
end L2
namespace L2
open PySem PySem.Spec PyProof.Rows
/-! ### methods of an own class; loops by an invariant, whatever is gone through -/
structure MDef (K : PySem.W.Frag) (C : Addr) (m qual : Str) (st : Stmt) (ps : List Str) (f : Addr) (fd : FuncData) : Prop where
  M : Meth K C m f
  F : Fun K m qual st f fd
  b : Binds K fd ps []
structure IDef (K : PySem.W.Frag) (C : Addr) (qual : Str) (st : Stmt) (ps : List Str) (f : Addr) (fd : FuncData) : Prop where
  M : Mk K C f
  F : Fun K "__init__" qual st f fd
  b : Binds K fd ps []
theorem loop_inv {J : It} {g : TG} {tb : TS} {D : Ends} {σ : St} {H : Hp} (n : Nat) (Pv : Nat → St → Hp → Prop) (h0 : Pv 0 σ H) (hgo : ∀ i σ H, i < n → Pv i σ H → J.go i H) (hst : ∀ σ H, Pv n σ H → J.stop n H)
    (hs : ∀ i σ H, i < n → Pv i σ H → ∀ x H', J.yld i H x H' → g x σ H' fun σ2 H2 => tb { D with nx := Pv (i + 1), ct := Pv (i + 1), bk := D.nx } σ2 H2) (hd : ∀ σ H, Pv n σ H → D.nx σ H) : LoopJ J g tb D σ H := by
  refine ⟨fun i m σ H => m = n - i ∧ i ≤ n ∧ Pv i σ H, ⟨n, by simp, Nat.zero_le _, h0⟩, ?_⟩
  rintro i m σ H ⟨rfl, hi, p⟩
  by_cases hlt : i < n
  · exact .inr ⟨hgo i σ H hlt p, Pv (i + 1), fun σ' H' q => ⟨n - (i + 1), by omega, rfl, hlt, q⟩, fun x H' y => hs i σ H hlt p x H' y⟩
  · have e : i = n := by omega
    subst e
    exact .inl ⟨hst σ H p, hd σ H p⟩
end L2

namespace L2
open PySem PySem.Spec PyProof.Rows
section
variable {X : Cx}
def rIndex (K : PySem.W.Frag) : V → List V → Hp → VK → Prop := fun x vs H Q => ∃ (l : Addr) (ns : List Int) (k : Int), x = .ref l ∧ vs = [.int k] ∧ SqL K H l (ns.map V.int) ∧ k ∈ ns ∧ Q (.int (ns.idxOf k : Nat)) H
end
def Keeps (p : Addr) (H H' : Hp) : Prop := ∀ b o, b ≠ p → H b = some o → H' b = some o
theorem Keeps.of {p : Addr} {H H' : Hp} (s : Same H H') : Keeps p H H' := fun b o _ e => s b o e
theorem Keeps.trans {p : Addr} {H H1 H2 : Hp} (a : Keeps p H H1) (b : Keeps p H1 H2) : Keeps p H H2 := fun c o n e => b c o n (a c o n e)
theorem Keeps.put {p : Addr} {H H' : Hp} {o : HO} (s : Keeps p H H') : Keeps p H (upd H' p o) := fun b u n e => by rw [upd_ne n]; exact s b u n e
theorem Keeps.same {p : Addr} {H H' : Hp} (s : Keeps p H H') (h : H p = none) : Same H H' := fun b o e => s b o (fun z => by rw [z, h] at e; cases e) e
theorem Rd.keep {p a : Addr} {H H' : Hp} {u : HO} (s : Keeps p H H') (n : a ≠ p) (h : Rd H a u) : Rd H' a u := by
  rcases h with h | ⟨o, h⟩
  · exact .inl (s _ _ n h)
  · exact .inr ⟨o, s _ _ n h⟩
theorem SqL.keep {K : PySem.W.Frag} {p a : Addr} {H H' : Hp} {xs : List V} (s : Keeps p H H') (n : a ≠ p) (h : SqL K H a xs) : SqL K H' a xs := by
  rcases h with h | h
  · exact .inl (h.keep s n)
  · exact .inr h
theorem SqT.keep {K : PySem.W.Frag} {p a : Addr} {H H' : Hp} {xs ys : List V} (s : Keeps p H H') (hp : H p = some (.lst ys)) (h : SqT K H a xs) : SqT K H' a xs := by
  rcases h with h | h
  · refine .inl (h.keep s fun z => ?_)
    subst z
    rcases h with h | ⟨o, h⟩
    · rw [hp] at h; cases h
    · rw [hp] at h; cases h
  · exact .inr h
theorem Tups.keep {K : PySem.W.Frag} {p : Addr} {H H' : Hp} {as : List Addr} {ls : List Ld} {ys : List V} (s : Keeps p H H') (hp : H p = some (.lst ys)) (h : Tups K H as ls) : Tups K H' as ls := ⟨h.1, fun i a x e1 e2 => (h.2 i a x e1 e2).keep s hp⟩
theorem LoadsAt.keep {K : PySem.W.Frag} {p l : Addr} {H H' : Hp} {ls : List Ld} {ys : List V} (s : Keeps p H H') (hp : H p = some (.lst ys)) (n : l ≠ p) (h : LoadsAt K H l ls) : LoadsAt K H' l ls := by
  obtain ⟨as, a, b⟩ := h
  exact ⟨as, a.keep s n, b.keep s hp⟩
theorem Rd.keepI {p a C dx : Addr} {H H' : Hp} {fs : List (Str × V)} {u : HO} (s : Keeps p H H') (hp : H p = some (.ins C dx fs)) (hu : ∀ C dx fs, u ≠ .ins C dx fs) (h : Rd H a u) : Rd H' a u := by
  refine h.keep s fun z => ?_
  subst z
  rcases h with h | ⟨o, h⟩
  · rw [hp] at h; cases h; exact hu _ _ _ rfl
  · rw [hp] at h; cases h
theorem SqL.keepI {K : PySem.W.Frag} {p a C dx : Addr} {H H' : Hp} {xs : List V} {fs : List (Str × V)} (s : Keeps p H H') (hp : H p = some (.ins C dx fs)) (h : SqL K H a xs) : SqL K H' a xs := by
  rcases h with h | h
  · exact .inl (h.keepI s hp fun _ _ _ z => HO.noConfusion z)
  · exact .inr h
theorem SqT.keepI {K : PySem.W.Frag} {p a C dx : Addr} {H H' : Hp} {xs : List V} {fs : List (Str × V)} (s : Keeps p H H') (hp : H p = some (.ins C dx fs)) (h : SqT K H a xs) : SqT K H' a xs := by
  rcases h with h | h
  · exact .inl (h.keepI s hp fun _ _ _ z => HO.noConfusion z)
  · exact .inr h
theorem LoadsAt.keepI {K : PySem.W.Frag} {p l C dx : Addr} {H H' : Hp} {ls : List Ld} {fs : List (Str × V)} (s : Keeps p H H') (hp : H p = some (.ins C dx fs)) (h : LoadsAt K H l ls) : LoadsAt K H' l ls := by
  obtain ⟨as, a, b⟩ := h
  exact ⟨as, a.keepI s hp, b.1, fun i a x e1 e2 => (b.2 i a x e1 e2).keepI s hp⟩
/-- a yard: its object, its list of kinds, its list of spots -/
structure YardAt (C : Addr) (H : Hp) (y kn wh : Addr) (ks : List Str) (ws : List Int) (m : Int) : Prop where
  ob : ∃ dx, H y = some (.ins C dx [("kinds", .ref kn), ("where", .ref wh), ("many", .int m)])
  okn : H kn = some (.lst (ks.map V.str))
  owh : H wh = some (.lst (ws.map V.int))
theorem YardAt.same {C : Addr} {H H' : Hp} {y kn wh : Addr} {ks : List Str} {ws : List Int} {m : Int} (h : YardAt C H y kn wh ks ws m) (s : Same H H') : YardAt C H' y kn wh ks ws m := by
  obtain ⟨⟨dx, a⟩, b, c⟩ := h
  exact ⟨⟨dx, s _ _ a⟩, s _ _ b, s _ _ c⟩
theorem YardAt.off {C : Addr} {H H' : Hp} {p y kn wh : Addr} {ks : List Str} {ws : List Int} {m : Int} {ys : List V} (h : YardAt C H y kn wh ks ws m) (s : Keeps p H H') (hp : H p = some (.lst ys)) (n1 : kn ≠ p) (n2 : wh ≠ p) : YardAt C H' y kn wh ks ws m := by
  obtain ⟨⟨dx, a⟩, b, c⟩ := h
  exact ⟨⟨dx, s _ _ (fun z => by rw [z, hp] at a; cases a) a⟩, s _ _ n1 b, s _ _ n2 c⟩
theorem YardAt.put {C : Addr} {H H' : Hp} {y kn wh : Addr} {ks : List Str} {ws ws' : List Int} {m : Int} (h : YardAt C H y kn wh ks ws m) (s : Keeps wh H H') (n1 : kn ≠ wh) (e : H' wh = some (.lst (ws'.map V.int))) : YardAt C H' y kn wh ks ws' m := by
  obtain ⟨⟨dx, a⟩, b, c⟩ := h
  exact ⟨⟨dx, s _ _ (fun z => by rw [z, c] at a; cases a) a⟩, s _ _ n1 b, e⟩
/-! ### a comprehension over loads -/
theorem cj_loads {K : PySem.W.Frag} {l : Addr} {ls : List Ld} {te : TE} {cm : List (Option Nat)} {σ : St} {H : Hp} {Q : VK} (f : Ld → V) (hL : LoadsAt K H l ls) (hn : ls.length ≤ sizeLine) (hcm : σof cm σ = [none, none, none])
    (he : ∀ x ∈ ls, ∀ N : VK, N (f x) H → te [some (.str x.1), some (.int x.2.1), some (.int x.2.2)] H N)
    (hd : ∀ p, H p = none → Q (.ref p) (upd H p (.lst (ls.map f)))) : CompJ (Itl K l) (gTup K 3 (gCons (gName 0) (gCons (gName 1) (gCons (gName 2) gNil)))) tYes te cm σ Q H := by
  obtain ⟨as, hS, hlen, hT⟩ := hL
  refine cj_inv ls.length (fun i acc H' => H' = H ∧ acc = (ls.take i).map f) ⟨rfl, by simp⟩ ?_ ?_ ?_ ?_
  · rintro i acc H' hi ⟨rfl, _⟩
    have ha : as[i]? = some as[i] := List.getElem?_eq_getElem (by omega)
    exact ⟨_, .ref as[i], hS, by rw [List.getElem?_map, ha]; rfl⟩
  · rintro acc H' ⟨rfl, _⟩
    exact ⟨_, hS, by rw [List.length_map]; omega⟩
  · rintro i acc H' hi ⟨rfl, rfl⟩
    have ha : as[i]? = some as[i] := List.getElem?_eq_getElem (by omega)
    have hx : ls[i]? = some ls[i] := List.getElem?_eq_getElem hi
    refine ⟨by rw [List.length_map, List.length_take]; omega, fun x H2 y M hM => ?_⟩
    obtain ⟨e, y⟩ := y
    subst e
    have hy := y _ hS
    rw [List.getElem?_map, ha] at hy
    cases hy
    rw [hcm]
    refine ⟨_, _, rfl, hT i _ _ ha hx, rfl, _, _, rfl, _, _, rfl, _, _, rfl, rfl, ⟨rfl, fun k v e => ?_⟩, ?_⟩
    · match k, e with
      | 0, e => cases e
      | 1, e => cases e
      | 2, e => cases e
    · unfold tYes; dsimp only
      split
      · refine he ls[i] (List.getElem_mem _) _ (hM _ _ ⟨rfl, ?_⟩)
        rw [List.take_succ_eq_append_getElem hi, List.map_append]; rfl
      · rename_i z; exact absurd rfl z
  · rintro acc H' ⟨rfl, rfl⟩ p hp
    rw [List.take_length]
    exact hd p hp
theorem ixN_ok {n : Nat} {i : Int} (h0 : 0 ≤ i) (h1 : i < n) : ixN n i = some i.toNat := by
  unfold ixN
  rw [if_pos h0, if_pos h1]
theorem getD_memI {ds : List Int} {i : Nat} (h : i < ds.length) : ds.getD i 0 ∈ ds := by
  rw [List.getD_eq_getElem?_getD, List.getElem?_eq_getElem h]
  exact List.getElem_mem h
theorem getD_idx {ds : List Int} {i : Nat} (h : i < ds.length) : ds[i]? = some (ds.getD i 0) := by
  rw [List.getD_eq_getElem?_getD, List.getElem?_eq_getElem h]; rfl
end L2

namespace L2
open PySem PySem.Spec PyProof.Rows
section
variable {X : Cx}
theorem ps_setcomp {tg iter elt : Expr} {ifs : List Expr} {scope : Scope} {pos spos py : Pos} {Nc : List Str} {cm : List (Option Nat)} {wi : TI} {g : TG} {tc : TT} {te : TE} {iy : Nat} {y : Str} (hN : X.N.Nodup) (hiy : X.N[iy]? = some y) (hly : X.env.scope.names.lookup y = some .local)
    (hsw : swapsWith (.ListComp elt [⟨tg, iter, ifs, 0⟩] scope pos) (some (.Name y py)) spos.line X.env = pure true)
    (hc : X.calm = true) (hi : PI X tg iter wi) (hkind : scope.kind = .function) (hcell : ∀ y ∈ scope.names, y.2 ≠ .cell) (hnames : ∀ y ∈ scope.names, y.2 = .local → scope.names.lookup y.1 = some .local)
    (hfree : ∀ y ∈ scope.names, y.2 = .free → X.env.kindOf y.1 = some .cell ∨ X.env.kindOf y.1 = some .free) (hlen : cm.length = Nc.length)
    (hcm : ∀ (j : Nat) (x : Str) (i : Nat), Nc[j]? = some x → cm[j]? = some (some i) → X.N[i]? = some x ∧ scope.names.lookup x = some .free ∧ (X.env.kindOf x = some .cell ∨ X.env.kindOf x = some .free))
    (hg : ∀ C s₀ H₀ ex, PG (blk X Nc scope C s₀ H₀ ex) tg g) (ht : ∀ C s₀ H₀ ex, PIf (blk X Nc scope C s₀ H₀ ex) ifs tc) (he : ∀ C s₀ H₀ ex, PE (blk X Nc scope C s₀ H₀ ex) elt te)
    (hs : ∀ x, foldedSetIterable iter X.env x = pure x := by intro _; rfl) : PS X (.Assign [.Name y py] (.ListComp elt [⟨tg, iter, ifs, 0⟩] scope pos) spos) (tAsg (tComp wi g tc te cm) (gName iy)) := by
  intro pins s σ H D0 I h
  rw [exec_Assign_Name_used _ _ _ _ hsw]
  refine wpAny_bind (wpAny_standAt (wpAny_bind ?_))
  show wpAny _ X.A (do let _ ← comprehension (.ListComp elt [⟨tg, iter, ifs, 0⟩] scope pos) scope X.env _ (newList []) false (eval iter X.env) (some (assign (.Name y py) X.env))) _ _ s
  refine wpAny_bind (wpAny_mono (Q := fun _ s' => SP X pins D0 .next s') ?_ (fun _ s' hq => wpAny_pure (wpAny_pure hq)) fun _ _ e => e)
  have hfr : ∀ y ∈ scope.names, y.2 = .free → ∃ c, X.env.cells.lookup y.1 = some c := fun y hy e => I.ok.has y.1 (hfree y hy e)
  refine wpAny_comprehension_free (use := some (assign (.Name y py) X.env)) (Q := fun _ s' => SP X pins D0 .next s') rfl hs (closureFor_clo hfr) hkind hnames (thn (hi pins s σ H _ I h) fun v s1 h1 => thn h1 fun itv s2 h2 => ?_)
  obtain ⟨it, fp, tn, J, H2, e, I2, T, st2, f2, W, ⟨m0, w0⟩, turn⟩ := h2
  subst e
  refine wpAny_newObj_type (wpAny_newFunctionEnv hcell (by intro y hy; simp at hy) (fun h₁ hns₁ hsb₁ => ?_) hkind)
  dsimp only at hns₁ hsb₁ ⊢
  -- D: the new list; C: the block's names
  have hk3 : ∀ b u, s2.heap.get? b = some u → (s2.heap.push { cls := .type "list", dict := none, data := .seq ([] : List Value).toArray }).get? b = some u := fun b u q => Heap.get?_push_of_some _ q
  have I3 : Inv X pins σ H2 { s2 with heap := s2.heap.push { cls := .type "list", dict := none, data := .seq ([] : List Value).toArray }, toks := s2.toks } := I2.kept hk3
  have hD3 : (s2.heap.push { cls := .type "list", dict := none, data := .seq ([] : List Value).toArray }).get? s2.heap.objs.size = some { cls := .type "list", data := .seq ([] : List Value).toArray } := Heap.get?_push_size _ rfl
  have hCs : (s2.heap.push { cls := .type "list", dict := none, data := .seq ([] : List Value).toArray }).objs.size = s2.heap.objs.size + 1 := Heap.size_push _ _
  have hDn : H2 s2.heap.objs.size = none := I2.hok.fresh (Nat.le_refl _)
  have st3 : tn 0 (s2.heap.push { cls := .type "list", dict := none, data := .seq ([] : List Value).toArray }) := T.keep _ _ _ st2 fun b _ o q => hk3 b o q
  have fpD : ∀ b ∈ fp, b < s2.heap.objs.size := fun b hb => by
    obtain ⟨o, e, _⟩ := T.obj _ _ st2 b hb
    exact Heap.lt_size e
  have DX : FpOk X pins H2 s2.heap.objs.size := I2.fpOk (Nat.le_refl _) hDn
  generalize hs3 : s2.heap.push { cls := .type "list", dict := none, data := .seq ([] : List Value).toArray } = h3 at *
  generalize hDg : s2.heap.objs.size = D at *
  have exX : ∀ b ∈ D :: fp, FpOk X pins H2 b := fun b hb => by
    rcases List.mem_cons.mp hb with z | z
    · rw [z]; exact DX
    · exact f2 b z
  have exC : ∀ b ∈ D :: fp, b < h3.objs.size := fun b hb => by
    rcases List.mem_cons.mp hb with z | z
    · rw [z, hCs]; exact Nat.lt_succ_self _
    · rw [hCs]; exact Nat.lt_succ_of_lt (fpD b z)
  have exS : ∀ b ∈ D :: fp, b ∉ frs X.stack := fun b hb z => by
    obtain ⟨_, n1, n2, _⟩ := exX b hb
    rcases List.mem_cons.mp (I2.stkSub b z) with y | y
    · exact n1 y
    · exact n2 y
  have clo : ∀ x c, (cloF X.env.cells scope.names []).lookup x = some c → X.env.cells.lookup x = some c := fun x c e => cloF_of (acc := []) (fun _ _ z => by simp at z) e
  have keep1 : ∀ b u, h3.get? b = some u → h₁.get? b = some u := fun b u q =>
    (hsb₁.2 b (Nat.ne_of_lt (Heap.lt_size q))).trans (Heap.get?_push_of_some _ q)
  let s3 : Shared := { s2 with heap := h3 }
  let X' : Cx := blk X Nc scope h3.objs.size s3 H2 (D :: fp)
  have hX' : X' = blk X Nc scope h3.objs.size s3 H2 (D :: fp) := rfl
  have okX : X'.Ok := by
    refine ⟨I3.ok.mod, hkind, I3.ok.glob, I3.ok.blt, Nat.le_refl _, fun x y c e1 e2 => I3.ok.inj x y c (clo x c e1) (clo y c e2), fun x hx => ?_, fun x c e => (Bool.false_ne_true e).elim, I3.ok.hd, I3.ok.frames, .inl rfl, fun b hb => ⟨Nat.ne_of_lt (exC b hb), fun x c e => (exX b hb).2.2.2.2.1 x c (clo x c e)⟩,
      I3.bs, ?_, fun b o e hb => ?_, exS, I3.stack, I3.stkFree⟩
    · have hx' : scope.names.lookup x = some .free := lookup_relabel_back (env := X.env) hcell hx
      have hmem : (x, NameKind.free) ∈ scope.names := by
        have : ∀ (l : List (Str × NameKind)), l.lookup x = some .free → (x, NameKind.free) ∈ l := by
          intro l
          induction l with
          | nil => intro z; simp at z
          | cons a r ih =>
            obtain ⟨n, k⟩ := a
            intro z
            rw [List.lookup_cons] at z
            split at z
            · rename_i y
              have yn : x = n := by simpa using y
              cases z
              rw [yn]; exact List.mem_cons_self
            · exact List.mem_cons_of_mem _ (ih z)
        exact this _ hx'
      exact cloF_has hx' (hfr (x, .free) hmem rfl)
    · exact Nat.le_trans I3.ok.bsz I3.sz
    · rcases (exX b hb).2.2.2.1 with z | z
      · exact I3.ok.noex b o e z
      · exact absurd (Nat.lt_of_lt_of_le (Heap.lt_size (I3.ok.bs b o e).1) z) (Nat.lt_irrefl _)
  have hσl : (σof cm σ).length = Nc.length := by
    unfold σof
    rw [List.length_map]; exact hlen
  have I4 : Inv X' [] (σof cm σ) H2 { s2 with heap := h₁, toks := s2.toks + ([] : List (Str × Value)).length } := by
    refine ⟨okX, rfl, I3.bare, Un.kept keep1, ⟨_, hns₁, fun j x v e1 e2 e3 => ?_⟩, fun x c e => ?_, ?_, fun x c e => I3.freeC x c (clo x c e), (fun p hp => absurd (show p ∈ ([] : List (Addr × Obj)) from hp) (by simp)), I3.hok.kept keep1, hσl⟩
    · have e2' : ∃ i, cm[j]? = some (some i) ∧ σ[i]? = some (some v) := by
        unfold σof at e2
        rw [List.getElem?_map] at e2
        cases q : cm[j]? with
        | none => rw [q] at e2; simp at e2
        | some o =>
          rw [q] at e2
          cases o with
          | none => simp at e2
          | some i =>
            refine ⟨i, rfl, ?_⟩
            simp only [Option.map_some, Option.some.injEq] at e2
            cases q2 : σ[i]? with
            | none => rw [q2] at e2; simp at e2
            | some o2 => rw [q2] at e2; simp at e2; rw [e2]
      obtain ⟨i, ej, ei⟩ := e2'
      obtain ⟨n1, n2, n3⟩ := hcm j x i e1 ej
      obtain ⟨m, hn, hl⟩ := I3.loc
      have n3' : Vis X.env.scope x := by
        rcases n3 with z | z
        · exact .inr (.inl z)
        · exact .inr (.inr z)
      obtain ⟨u, r, l⟩ := hl i x v n1 ei n3'
      refine ⟨u, r, ?_⟩
      rcases l with ⟨l, _⟩ | ⟨_, c, ec, ic⟩
      · rcases n3 with z | z
        · rw [l] at z; cases z
        · rw [l] at z; cases z
      · obtain ⟨c', ec'⟩ := cloF_has (cells := X.env.cells) (acc := []) n2 ⟨c, ec⟩
        have hcc := clo x c' ec'
        rw [ec] at hcc; cases hcc
        obtain ⟨oc, hoc, hdc⟩ := ic
        refine .inr ⟨?_, c, ec', oc, keep1 _ _ hoc, hdc⟩
        exact lookup_relabel_free (env := X.env) n2
    · obtain ⟨v, oc, hoc, hdc⟩ := I3.cell x c (clo x c e)
      exact ⟨v, oc, keep1 _ _ hoc, hdc⟩
    · exact I3.hok.fresh (Nat.le_refl _)
  have stat : ∀ {H' : Hp} {pl : List (Addr × Obj)}, (∀ b ∈ fp, H' b = none) → (∀ p ∈ pl, p.1 = D) → ∀ b ∈ fp, FpOk X' pl H' b := fun {H' pl} hn hpl b hb =>
    ⟨hn b hb, Nat.ne_of_lt (exC b (List.mem_cons_of_mem _ hb)), exS b (List.mem_cons_of_mem _ hb), .inl (List.mem_cons_of_mem _ hb), fun x c e => (f2 b hb).2.2.2.2.1 x c (clo x c e), fun p hp z => by
      have : p ∈ pl := (List.mem_append.mp hp).elim (fun z => absurd (show p ∈ ([] : List (Addr × Obj)) from z) (by simp)) fun z => z
      have e := hpl p this
      rw [e] at z
      exact absurd (fpD b hb) (by rw [← z]; exact Nat.lt_irrefl _)⟩
  have hDC : D ≠ h3.objs.size := by rw [hCs]; exact Nat.ne_of_lt (Nat.lt_succ_self _)
  have hDs : D ∉ frs X.stack := exS D List.mem_cons_self
  -- the loop
  have loop : ∀ s5 : Shared, s5 = { s2 with heap := h₁, toks := s2.toks + ([] : List (Str × Value)).length } →
      codeAny (model X.prog X.w) X.A (.compLoop (.ListComp elt [⟨tg, iter, ifs, 0⟩] scope pos) 0 (.ref it) (.ref D) (compEnvC scope (cloF X.env.cells scope.names []) h3.objs.size X.env))
        (compPost (model X.prog X.w) X.A X.xe (some (assign (.Name y py) X.env)) (fun _ s' => SP X pins D0 .next s') (.ref D) h3.objs.size) s5 := by
    rintro s5 rfl
    refine codeAny_loop rfl (fun n s' => ∃ i acc its k H', Inv X' [] (σof cm σ) H' s' ∧ tn i s'.heap ∧ (∀ b ∈ fp, H' b = none) ∧ s'.heap.get? D = some { cls := .type "list", data := .seq (List.toArray its) k } ∧ H' D = none ∧ Vals acc its ∧ acc.length ≤ sizeLine ∧ W i n acc H') (fun n s' hI => ?_) m0
      ⟨0, [], [], 0, H2, I4, T.keep _ _ _ st3 fun b _ o q => keep1 b o q, fun b hb => (f2 b hb).1, keep1 _ _ hD3, hDn, .nil, Nat.zero_le _, w0⟩
    obtain ⟨i, acc, its, k, H5, J5, t5, fr5, d5, dn5, va5, ac5, w5⟩ := hI
    show wpAny _ X.A ((compTurn (.ListComp elt [⟨tg, iter, ifs, 0⟩] scope pos) 0 (.ref it) (.ref D) (compEnvC scope (cloF X.env.cells scope.names []) h3.objs.size X.env)).onRaise (fun x => do noteFrame x (compEnvC scope (cloF X.env.cells scope.names []) h3.objs.size X.env); theTreesLotGoes x)) _ _ s'
    refine wpAny_noted ?_
    rw [compTurn_list]
    have nocell : ∀ v, ({ cls := .type "list", data := .seq (List.toArray its) k } : Obj).data ≠ .cell v := fun v z => nomatch z
    have P5 : Inv X' [(D, { cls := .type "list", data := .seq (List.toArray its) k })] (σof cm σ) H5 s' := J5.pins_of fun p hp => by
      have e : p = (D, { cls := .type "list", data := .seq (List.toArray its) k }) := by simpa using hp
      subst e
      exact ⟨d5, dn5, hDC, hDs, nocell⟩
    have pl1 : ∀ p ∈ [((D, { cls := .type "list", data := .seq (List.toArray its) k }) : Addr × Obj)], p.1 = D := fun p hp => by
      have e : p = (D, { cls := .type "list", data := .seq (List.toArray its) k }) := by simpa using hp
      rw [e]
    rcases turn i n acc H5 w5 with ⟨stop, qn⟩ | ⟨go, hsz, step⟩
    · refine wpAny_bind (wpAny_standAt (wpAny_bind (wpAny_mono (T.done X' rfl rfl rfl hc i _ s' _ H5 (fun _ _ => False) P5 (stat fr5 pl1) t5 stop) (fun r s6 ⟨hr, J6⟩ => ?_) fun _ _ f => f.elim)))
      subst hr
      refine wpAny_pure ?_
      obtain ⟨mC, hnC, _⟩ := J6.loc
      have hsb : Heap.SameBut h3.objs.size s6.heap s6.heap := ⟨rfl, fun _ _ => rfl⟩
      let h' : Heap := s6.heap
      have hCn : H5 h3.objs.size = none := J6.free
      have toh : ∀ b u, b ≠ h3.objs.size → s6.heap.get? b = some u → h'.get? b = some u := fun b u hb q => (hsb.2 b hb).trans q
      have hok' : HOk X.prog X.w H5 h' := fun a o e => (J6.hok a o e).stay (fun b u hb q => toh b u (by
        rintro rfl
        rcases hb with z | z
        · rw [← z, hCn] at e; cases e
        · rw [hCn] at z; cases z) q) (fun _ q => q) fun _ _ q => q
      have ltC : ∀ {b : Addr} {u : Obj}, h3.get? b = some u → b ≠ h3.objs.size := fun q => Nat.ne_of_lt (Heap.lt_size q)
      have un' : Un (frs X.stack) (D :: fp) H2 H5 h3 h' := by
        have u := J6.base
        refine ⟨fun b o e n hb hx => toh b o (ltC e) (u.keep b o e n hb hx), fun b o e n hb hx => ?_, u.free, fun b o e hx => ?_, u.tups, u.frzs, u.tbls⟩
        · obtain ⟨sl, q⟩ := u.slot b o e n hb hx
          exact ⟨sl, toh b _ (ltC e) q⟩
        · obtain ⟨o', q⟩ := u.there b o e hx
          exact ⟨o', toh b _ (ltC e) q⟩
      have J7 : Inv X pins σ H5 { s6 with heap := h' } := Inv.call' (s' := { s6 with heap := h' }) (ch := D :: fp) I3 J6.os un' hok' J6.bare fun b hb => by
        obtain ⟨_, n1, n2, n3, n4, n5⟩ := exX b hb
        exact ⟨n3, n1, n4, n5⟩
      obtain ⟨dg, dg2, _⟩ := J6.pin (D, { cls := .type "list", data := .seq (List.toArray its) k }) (by simp)
      obtain ⟨_, n1, n2, n3, n4, n5⟩ := exX D List.mem_cons_self
      have n3' : X.s₀.heap.objs.size ≤ D := by
        have := I2.sz
        rw [hDg] at this
        exact this
      have J8 := J7.track (o := .lst acc) dg2 n3' n1 n4 n5 ⟨ac5, its, k, va5, toh _ _ hDC dg⟩
      obtain ⟨fc0, fc1, fc2, fc3, fc4, fc5⟩ := I3.fpOk (b := h3.objs.size) (H' := upd H5 D (.lst acc)) (Nat.le_refl _) (by rw [upd_ne (Ne.symm hDC)]; exact hCn)
      refine wpAny_assign_Name (store_ok2 (s := s6) (v := .ref D) J8 hN hiy (.inl hly) rfl (fun s7 J9 hsa => ?_) (.inr hly))
      obtain ⟨aa, hsa, hwh⟩ := hsa
      have hca : h3.objs.size ≠ aa := by
        rcases hwh with z | z
        · rw [z]; exact fc1
        · exact (fc4 _ _ z).symm
      refine ⟨mC, hnC.sameBut hsa hca, fun h7 hs7 => ?_⟩
      exact ⟨_, _, J9.turned (it := h3.objs.size) (t' := s7.toks) (fun b o hb hu => (hs7.2 b hb).trans hu) fc0 fc1 fc3 fc4 fc5, qn D dg2⟩
    · refine wpAny_bind (wpAny_standAt (wpAny_bind (wpAny_mono (T.item X' rfl rfl rfl hc i _ s' _ H5 (fun _ _ => False) P5 (stat fr5 pl1) t5 go) (fun r s6 ⟨u, hr, h6⟩ => ?_) fun _ _ f => f.elim)))
      subst hr
      refine wpAny_bind (wpAny_mono h6 (fun _ s7 ⟨x, H7, J7, r7, y7, t7, fr7⟩ => ?_) fun _ _ f => f.elim)
      have P7 := J7.pinned (stat fr7 pl1) (T.obj _ _ t7)
      refine wpAny_bind (wpAny_mono (hg _ _ _ _ _ s7 _ H7 x u _ P7 r7 (step x H7 y7)) (fun _ s8 ⟨σ8, H8, J8, wk8, q8⟩ => ?_) fun _ _ f => f.elim)
      refine wpAny_bind (wpAny_mono (ht _ _ _ _ _ s8 σ8 H8 _ J8 q8) (fun b s9 ⟨H9, J9, q9⟩ => ?_) fun _ _ f => f.elim)
      have back : ∀ {Ha : Hp} {sa : Shared}, Inv X' ([(D, { cls := .type "list", data := .seq (List.toArray its) k })] ++ pinsAt fp s7.heap) σ8 Ha sa →
          Inv X' [] (σof cm σ) Ha sa ∧ tn (i + 1) sa.heap ∧ (∀ b ∈ fp, Ha b = none) ∧ sa.heap.get? D = some { cls := .type "list", data := .seq (List.toArray its) k } ∧ Ha D = none := fun {Ha sa} Ja => by
        refine ⟨(Ja.weak wk8.1 wk8.2).pins_of fun p hp => absurd hp (by simp), T.keep _ _ _ t7 fun b hb o e => (Ja.pin (b, o) (List.mem_append_right _ (List.mem_append_right _ (mem_pinsAt hb e)))).1, fun b hb => ?_, ?_⟩
        · obtain ⟨o, e, d⟩ := T.obj _ _ t7 b hb
          exact (Ja.pin (b, o) (List.mem_append_right _ (List.mem_append_right _ (mem_pinsAt hb e)))).2.1
        · obtain ⟨z1, z2, _⟩ := Ja.pin (D, { cls := .type "list", data := .seq (List.toArray its) k }) (by simp)
          exact ⟨z1, z2⟩
      cases b with
      | false =>
        simp only [Bool.false_eq_true, if_false] at q9 ⊢
        obtain ⟨m', hm, w'⟩ := q9
        obtain ⟨z0, z1, z2, z3, z4⟩ := back J9
        exact wpAny_pure ⟨rfl, m', hm, i + 1, acc, its, k, H9, z0, z1, z2, z3, z4, va5, ac5, w'⟩
      | true =>
        simp only [if_true] at q9 ⊢
        refine wpAny_bind (wpAny_bind (wpAny_mono (he _ _ _ _ _ s9 σ8 H9 _ J9 q9) (fun y s10 ⟨v, H10, J10, rv, q10⟩ => wpAny_bind ?_) fun _ _ f => f.elim))
        obtain ⟨m', hm, w'⟩ := q10
        obtain ⟨z0, z1, z2, z3, z4⟩ := back J10
        have hli := va5.length
        refine call_meets F.slot_list_append ⟨_, z3, rfl⟩ F.entry_list_append (F.args_list_append_2 _ _) (PySem.list_append D its.toArray k y (by rw [List.size_toArray]; omega)) ⟨z3, ?_⟩
        obtain ⟨k', q⟩ : ∃ k', (s10.heap.update D (Obj.mapSeq (·.push y))).get? D = some { cls := .type "list", data := .seq (List.toArray (its ++ [y])) k' } := by
          have q := PySem.IsL.update z3 (·.push y)
          have e : its.toArray.push y = (its ++ [y]).toArray := by simp
          rw [e] at q
          exact ⟨_, q⟩
        refine wpAny_pure (wpAny_pure ⟨rfl, m', hm, i + 1, acc ++ [v], its ++ [y], k', H10, z0.turned (it := D) (fun b o hb hu => (Heap.get?_update_other s10.heap (Obj.mapSeq (·.push y)) (Ne.symm hb)).trans hu) z4 hDC (.inl List.mem_cons_self) (fun x c e => (exX D List.mem_cons_self).2.2.2.2.1 x c (clo x c e)) (fun p hp => absurd (show p ∈ ([] : List (Addr × Obj)) from hp) (by simp)),
          T.keep _ _ _ z1 fun b hb o e => (Heap.get?_update_other s10.heap (Obj.mapSeq (·.push y)) (Nat.ne_of_gt (fpD b hb))).trans e, z2, q, z4, va5.append (.cons rv .nil), by rw [List.length_append, List.length_singleton]; omega, w'⟩)
  exact codeAny_compStart_list (loop _ rfl) (T.self X.A 0 _ _ _ (T.keep _ _ _ st3 fun b _ o q => keep1 b o q) (loop _ rfl))
end
theorem ps_lc {X : Cx} {tg iter elt : Expr} {ifs : List Expr} {scope : Scope} {pos spos py : Pos} (Nc : List Str) (cm : List (Option Nat)) {wi : TI} {g : TG} {tc : TT} {te : TE} {iy : Nat} {y : Str} (hN : X.N.Nodup) (hiy : X.N[iy]? = some y) (hly : X.env.scope.names.lookup y = some .local)
    (hi : PI X tg iter wi) (hg : ∀ C s₀ H₀ ex, PG (blk X Nc scope C s₀ H₀ ex) tg g) (ht : ∀ C s₀ H₀ ex, PIf (blk X Nc scope C s₀ H₀ ex) ifs tc) (he : ∀ C s₀ H₀ ex, PE (blk X Nc scope C s₀ H₀ ex) elt te)
    (hsw : swapsWith (.ListComp elt [⟨tg, iter, ifs, 0⟩] scope pos) (some (.Name y py)) spos.line X.env = pure true := by rfl)
    (hc : X.calm = true := by rfl) (hkind : scope.kind = .function := by rfl) (hcell : ∀ y ∈ scope.names, y.2 ≠ .cell := by decide +kernel) (hnames : ∀ y ∈ scope.names, y.2 = .local → scope.names.lookup y.1 = some .local := by decide +kernel)
    (hfree : freeOk X scope = true := by rfl) (hlen : cm.length = Nc.length := by rfl) (hcm : cmOk X scope Nc cm = true := by rfl)
    (hs : ∀ x, foldedSetIterable iter X.env x = pure x := by intro _; rfl) : PS X (.Assign [.Name y py] (.ListComp elt [⟨tg, iter, ifs, 0⟩] scope pos) spos) (tAsg (tComp wi g tc te cm) (gName iy)) := by
  refine ps_setcomp hN hiy hly hsw hc hi hkind hcell hnames (fun y hy e => ?_) hlen (fun j x i e1 e2 => ?_) hg ht he hs
  · have h := List.all_eq_true.mp hfree y hy
    rw [e] at h
    simpa using h
  · have hj : (Nc.zip cm)[j]? = some (x, some i) := by
      rw [List.getElem?_zip_eq_some]; exact ⟨e1, e2⟩
    have h := List.all_eq_true.mp hcm _ (List.mem_of_getElem? hj)
    simpa using h
end L2
namespace L2
open PySem PySem.Spec PyProof.Rows
/-- a def whose promise speaks of no exception lets none out -/
theorem FnOk.calm {P : Program} {w : World} {K : PySem.W.Frag} {mg : Str → Option Value} {base : Heap} {k : Nat} {f : Addr} {fd : FuncData} {ps : List Str} {sp : Sp} (F : FnOk P w K mg base (CXf P w) k f fd ps sp)
    (h : ∀ vs H Q E, sp vs H Q E → sp vs H Q E0) : FnOk P w K mg base CX0 k f fd ps sp := by
  refine ⟨F.len, fun A outer s H args us vs Q E hr he hb hv hs => ?_⟩
  refine codeAny_mono (F.run A outer s H args us vs Q E0 hr he hb hv (h _ _ _ _ hs)) fun r s' q => ?_
  cases r with
  | ok fl => cases fl <;> exact q
  | error e =>
    obtain ⟨x, cls, a0, H', B, _, _, _, _, _, _, _, _, _, z⟩ := q
    exact z.elim
end L2

namespace L2
open PySem PySem.Spec PyProof.Rows
/-! ### lists of tuples, of any rows -/
def TupsF {α : Type} (f : α → List V) (K : PySem.W.Frag) (H : Hp) (as : List Addr) (ls : List α) : Prop := as.length = ls.length ∧ ∀ (i : Nat) a x, as[i]? = some a → ls[i]? = some x → SqT K H a (f x)
def RowsAt {α : Type} (f : α → List V) (K : PySem.W.Frag) (H : Hp) (l : Addr) (ls : List α) : Prop := ∃ as : List Addr, SqL K H l (as.map V.ref) ∧ TupsF f K H as ls
section
variable {α : Type} {f : α → List V} {K : PySem.W.Frag} {H H' : Hp} {as bs : List Addr} {ls ks : List α} {l p : Addr}
theorem TupsF.same (s : Same H H') (h : TupsF f K H as ls) : TupsF f K H' as ls := ⟨h.1, fun i a x e1 e2 => s.tup (h.2 i a x e1 e2)⟩
theorem RowsAt.same (s : Same H H') (h : RowsAt f K H l ls) : RowsAt f K H' l ls := by
  obtain ⟨as, a, b⟩ := h
  exact ⟨as, s.seq a, b.same s⟩
theorem TupsF.nil : TupsF f K H [] [] := ⟨rfl, fun i a x e _ => by simp at e⟩
theorem TupsF.app (h : TupsF f K H as ls) (g : TupsF f K H bs ks) : TupsF f K H (as ++ bs) (ls ++ ks) := by
  refine ⟨by rw [List.length_append, List.length_append, h.1, g.1], fun i a x e1 e2 => ?_⟩
  by_cases hi : i < as.length
  · rw [List.getElem?_append_left hi] at e1
    rw [List.getElem?_append_left (by rw [← h.1]; exact hi)] at e2
    exact h.2 i a x e1 e2
  · rw [List.getElem?_append_right (by omega)] at e1
    rw [List.getElem?_append_right (by rw [← h.1]; omega), ← h.1] at e2
    exact g.2 _ a x e1 e2
theorem TupsF.one {a : Addr} {x : α} (h : SqT K H a (f x)) : TupsF f K H [a] [x] := by
  refine ⟨rfl, fun i b y e1 e2 => ?_⟩
  cases i with
  | zero => cases e1; cases e2; exact h
  | succ i => simp at e1
theorem TupsF.take (h : TupsF f K H as ls) (n : Nat) : TupsF f K H (as.take n) (ls.take n) := by
  refine ⟨by rw [List.length_take, List.length_take, h.1], fun i a x e1 e2 => ?_⟩
  rw [List.getElem?_take] at e1 e2
  split at e1
  · rename_i hi
    rw [if_pos hi] at e2
    exact h.2 i a x e1 e2
  · cases e1
theorem TupsF.drop (h : TupsF f K H as ls) (n : Nat) : TupsF f K H (as.drop n) (ls.drop n) := by
  refine ⟨by rw [List.length_drop, List.length_drop, h.1], fun i a x e1 e2 => ?_⟩
  rw [List.getElem?_drop] at e1 e2
  exact h.2 _ a x e1 e2
theorem TupsF.rew {ys : List V} {o : HO} (h : TupsF f K H as ls) (hl : H l = some (.lst ys)) : TupsF f K (upd H l o) as ls := ⟨h.1, fun i a x e1 e2 => (h.2 i a x e1 e2).rew hl⟩
theorem TupsF.keep {ys : List V} (s : Keeps p H H') (hp : H p = some (.lst ys)) (h : TupsF f K H as ls) : TupsF f K H' as ls := ⟨h.1, fun i a x e1 e2 => (h.2 i a x e1 e2).keep s hp⟩
theorem TupsF.keepI {C dx : Addr} {fs : List (Str × V)} (s : Keeps p H H') (hp : H p = some (.ins C dx fs)) (h : TupsF f K H as ls) : TupsF f K H' as ls := ⟨h.1, fun i a x e1 e2 => (h.2 i a x e1 e2).keepI s hp⟩
theorem RowsAt.keepI {C dx : Addr} {fs : List (Str × V)} (s : Keeps p H H') (hp : H p = some (.ins C dx fs)) (h : RowsAt f K H l ls) : RowsAt f K H' l ls := by
  obtain ⟨as, a, b⟩ := h
  exact ⟨as, a.keepI s hp, b.keepI s hp⟩
theorem RowsAt.keep {ys : List V} (s : Keeps p H H') (hp : H p = some (.lst ys)) (n : l ≠ p) (h : RowsAt f K H l ls) : RowsAt f K H' l ls := by
  obtain ⟨as, a, b⟩ := h
  exact ⟨as, a.keep s n, b.keep s hp⟩
theorem RowsAt.row (h : RowsAt f K H l ls) {i : Nat} {x : α} (e : ls[i]? = some x) : ∃ (as : List Addr) (a : Addr), SqL K H l (as.map V.ref) ∧ (as.map V.ref)[i]? = some (.ref a) ∧ SqT K H a (f x) := by
  obtain ⟨as, a, b⟩ := h
  have hi : i < as.length := by rw [b.1]; exact (List.getElem?_eq_some_iff.mp e).1
  refine ⟨as, as[i], a, ?_, b.2 i _ _ (List.getElem?_eq_getElem hi) e⟩
  rw [List.getElem?_map, List.getElem?_eq_getElem hi]; rfl
end
/-! ### codes -/
abbrev Cd := Int × Int
def cdV (x : Cd) : List V := [.int x.1, .int x.2]
def GoodCd (x : Cd) : Prop := (1 ≤ x.1 ∧ x.1 ≤ 9) ∧ (1 ≤ x.2 ∧ x.2 ≤ 9) ∧ x.1 ≠ x.2
end L2

namespace L2
open PySem PySem.Spec PyProof.Rows PySem.SeqAt
section
variable {X : Cx}
/-- KINDS.index(kind): a tuple of two -/
def rIndexT (K : PySem.W.Frag) : V → List V → Hp → VK → Prop := fun x vs H Q => ∃ (l : Addr) (a b k : V), x = .ref l ∧ vs = [k] ∧ SqT K H l [a, b] ∧ flatV a = true ∧ flatV b = true ∧ flatV k = true ∧ (eqV a k || eqV b k) = true ∧ Q (.int (if eqV a k = true then 0 else 1)) H
/-- != of two tuples of plain values -/
def rNeT (K : PySem.W.Frag) : R2 := fun x y H Q => ∃ a b xs ys, x = .ref a ∧ y = .ref b ∧ SqT K H a xs ∧ SqT K H b ys ∧ xs.all flatV = true ∧ ys.all flatV = true ∧ Q (.bl (!eqL xs ys)) H
end
end L2

namespace L2
open PySem PySem.Spec PyProof.Rows
/-! ### bells -/
inductive Eng where
  | no | wait (l r : Int) | armed (l r : Int) | other (l r s : Int) | used (l r : Int)
  deriving DecidableEq
def engV : Eng → List V
  | .no => [.str "not rung", .non, .non, .non]
  | .wait l r => [.str "not repeated", .int l, .int r, .non]
  | .armed l r => [.str "armed", .int l, .int r, .int r]
  | .other l r s => [.str "repeated otherwise", .int l, .int r, .int s]
  | .used l r => [.str "used up", .int l, .int r, .int r]
def Keeps2 (p q : Addr) (H H' : Hp) : Prop := ∀ b o, b ≠ p → b ≠ q → H b = some o → H' b = some o
theorem Keeps2.of {p q : Addr} {H H' : Hp} (s : Same H H') : Keeps2 p q H H' := fun b o _ _ e => s b o e
theorem Keeps2.l {p q : Addr} {H H' : Hp} (s : Keeps p H H') : Keeps2 p q H H' := fun b o n _ e => s b o n e
theorem Keeps2.r {p q : Addr} {H H' : Hp} (s : Keeps q H H') : Keeps2 p q H H' := fun b o _ n e => s b o n e
theorem Keeps2.trans {p q : Addr} {H H1 H2 : Hp} (a : Keeps2 p q H H1) (b : Keeps2 p q H1 H2) : Keeps2 p q H H2 := fun c o n m e => b c o n m (a c o n m e)
theorem Keeps2.same {p q : Addr} {H H1 H2 : Hp} (s : Same H H1) (k : Keeps2 p q H1 H2) (hp : H p = none) (hq : H q = none) : Same H H2 := fun b o e => k b o (ne_of_none e hp) (ne_of_none e hq) (s b o e)
theorem Keeps.free {p x : Addr} {H H' : Hp} (k : Keeps p H H') (n : x ≠ p) (h : H' x = none) : H x = none := by
  cases e : H x with
  | none => rfl
  | some o => have := k x o n e; rw [h] at this; cases this
theorem Keeps2.free {p q x : Addr} {H H' : Hp} (k : Keeps2 p q H H') (n : x ≠ p) (m : x ≠ q) (h : H' x = none) : H x = none := by
  cases e : H x with
  | none => rfl
  | some o => have := k x o n m e; rw [h] at this; cases this
def RowsH {α : Type} (f : α → List V) (K : PySem.W.Frag) (H : Hp) (l : Addr) (ls : List α) : Prop := ∃ as : List Addr, H l = some (.lst (as.map V.ref)) ∧ TupsF f K H as ls
theorem RowsH.same {α : Type} {f : α → List V} {K : PySem.W.Frag} {H H' : Hp} {l : Addr} {ls : List α} (s : Same H H') (h : RowsH f K H l ls) : RowsH f K H' l ls := by
  obtain ⟨as, a, t⟩ := h
  exact ⟨as, s _ _ a, t.same s⟩
theorem RowsH.rows {α : Type} {f : α → List V} {K : PySem.W.Frag} {H : Hp} {l : Addr} {ls : List α} (h : RowsH f K H l ls) : RowsAt f K H l ls := by
  obtain ⟨as, a, t⟩ := h
  exact ⟨as, SqL.of a, t⟩
structure BellsAt (C : Addr) (K : PySem.W.Frag) (H : Hp) (b cs fl st : Addr) (ls : List Cd) (fs : List Bool) (e : Eng) : Prop where
  ob : ∃ dx, H b = some (.ins C dx [("codes", .ref cs), ("failed", .ref fl), ("state", .ref st)])
  oc : ∃ as : List Addr, H cs = some (.lst (as.map V.ref)) ∧ TupsF cdV K H as ls
  of : H fl = some (.lst (fs.map V.bl))
  os : SqT K H st (engV e)
  nn : cs ≠ fl
  ln : fs.length = ls.length
theorem BellsAt.rows {C : Addr} {K : PySem.W.Frag} {H : Hp} {b cs fl st : Addr} {ls : List Cd} {fs : List Bool} {e : Eng} (h : BellsAt C K H b cs fl st ls fs e) : RowsAt cdV K H cs ls := by
  obtain ⟨as, a, t⟩ := h.oc
  exact ⟨as, SqL.of a, t⟩
theorem BellsAt.same {C : Addr} {K : PySem.W.Frag} {H H' : Hp} {b cs fl st : Addr} {ls : List Cd} {fs : List Bool} {e : Eng} (h : BellsAt C K H b cs fl st ls fs e) (s : Same H H') : BellsAt C K H' b cs fl st ls fs e := by
  obtain ⟨⟨dx, a⟩, ⟨as, c, t⟩, f, g, n, l⟩ := h
  exact ⟨⟨dx, s _ _ a⟩, ⟨as, s _ _ c, t.same s⟩, s _ _ f, s.tup g, n, l⟩
/-- a new state is put -/
theorem BellsAt.state {C : Addr} {K : PySem.W.Frag} {H H' : Hp} {b cs fl st st' dx : Addr} {ls : List Cd} {fs : List Bool} {e e' : Eng} (h : BellsAt C K H b cs fl st ls fs e) (k : Keeps b H H')
    (a : H' b = some (.ins C dx [("codes", .ref cs), ("failed", .ref fl), ("state", .ref st')])) (g : SqT K H' st' (engV e')) : BellsAt C K H' b cs fl st' ls fs e' := by
  obtain ⟨⟨dx0, a0⟩, ⟨as, c, t⟩, f, _, n, l⟩ := h
  exact ⟨⟨dx, a⟩, ⟨as, k _ _ (fun z => by rw [z, a0] at c; cases c) c, t.keepI k a0⟩, k _ _ (fun z => by rw [z, a0] at f; cases f) f, g, n, l⟩
/-- a bell fails -/
theorem BellsAt.fail {C : Addr} {K : PySem.W.Frag} {H H' : Hp} {b cs fl st : Addr} {ls : List Cd} {fs fs' : List Bool} {e : Eng} (h : BellsAt C K H b cs fl st ls fs e) (k : Keeps fl H H') (g : H' fl = some (.lst (fs'.map V.bl))) (hl : fs'.length = fs.length) : BellsAt C K H' b cs fl st ls fs' e := by
  obtain ⟨⟨dx0, a0⟩, ⟨as, c, t⟩, f, o, n, l⟩ := h
  exact ⟨⟨dx0, k _ _ (fun z => by rw [z, f] at a0; cases a0) a0⟩, ⟨as, k _ _ n c, t.keep k f⟩, g, o.keep k f, n, hl.trans l⟩
inductive Bd where
  | ring (l s : Int) | rept (s : Int) | use (l : Int) (k : Str) | fail (l : Int)
def cdOf (ls : List Cd) (l : Int) : Cd := ls.getD l.toNat (0, 0)
def codeOf (ls : List Cd) (l : Int) (k : Str) : Int := if k = "men" then (cdOf ls l).1 else (cdOf ls l).2
/-- the answer -/
def AnsB (K : PySem.W.Frag) (H : Hp) (e : Eng) : Bd → V → Prop
  | .rept s, v => ∃ (p : Addr) (l r : Int), e = .wait l r ∧ v = .ref p ∧ SqT K H p [.bl (decide (s = r)), .int r, .int s]
  | _, v => v = .non
theorem AnsB.same {K : PySem.W.Frag} {H H' : Hp} {e : Eng} {d : Bd} {v : V} (s : Same H H') (h : AnsB K H e d v) : AnsB K H' e d v := by
  cases d with
  | rept s0 =>
    obtain ⟨p, l, r, e1, e2, t⟩ := h
    exact ⟨p, l, r, e1, e2, s.tup t⟩
  | _ => exact h
theorem atI_bl {fs : List Bool} {l : Int} (h0 : 0 ≤ l) (h1 : l < fs.length) : atI (fs.map V.bl) l = some (.bl (fs.getD l.toNat false)) := by
  obtain ⟨n, rfl⟩ := Int.eq_ofNat_of_zero_le h0
  have hn : n < fs.length := by omega
  refine atI_of ?_
  rw [List.getElem?_map, List.getElem?_eq_getElem hn, Int.toNat_natCast, List.getD_eq_getElem?_getD, List.getElem?_eq_getElem hn]; rfl
end L2

namespace L2
open PySem PySem.Spec PyProof.Rows
section
variable {X : Cx}
end
/-! ### stands and steps -/
def lvl (ds : List Int) (d : Int) : Option Int := if d ∈ ds then some (ds.idxOf d : Nat) else none
theorem lvl_some {ds : List Int} (h : Shaft ds) {i : Nat} {d : Int} (hi : i < ds.length) (e : ds.getD i 0 = d) : lvl ds d = some (i : Int) := by
  have hm : d ∈ ds := e ▸ getD_memI hi
  rw [lvl, if_pos hm]
  have hlt := List.idxOf_lt_length_iff.mpr hm
  have e2 : ds.getD (ds.idxOf d) 0 = d := by
    rw [List.getD_eq_getElem?_getD, List.getElem?_eq_getElem hlt]
    exact List.getElem_idxOf hlt
  have : ds.idxOf d = i := by
    rcases Nat.lt_trichotomy (ds.idxOf d) i with z | z | z
    · have := h.lt z hi; omega
    · exact z
    · have := h.lt z hlt; omega
  rw [this]
def cageL (ds : List Int) (p c : Int) : Option Int := if c = 0 then lvl ds p else lvl ds (whole ds - p)
inductive Stp where
  | wind (c l : Int) | load (k c : Int) | unload (k c : Int)
/-- what can be done behind the level of the cage -/
def handV (lv : Option Int) (x : List Int) : Stp → Option (List Int)
  | .wind _ _ => none
  | .load k c => match lv with | none => none | some l => if x.getD (k.toNat + 1) 0 = l ∧ ¬ 10 + c ∈ x.tail then some (x.set (k.toNat + 1) (10 + c)) else none
  | .unload k c => match lv with | none => none | some l => if x.getD (k.toNat + 1) 0 = 10 + c then some (x.set (k.toNat + 1) l) else none
def stCage : Stp → Int
  | .wind c _ => c
  | .load _ c => c
  | .unload _ c => c
def stK : Stp → Int
  | .wind _ _ => 0
  | .load k _ => k
  | .unload k _ => k
def after (ds dead : List Int) (x : List Int) : Stp → Option (List Int)
  | .wind c l => if l < 0 ∨ (ds.length : Int) ≤ l ∨ l ∈ dead then none else some ((if c = 0 then ds.getD l.toNat 0 else whole ds - ds.getD l.toNat 0) :: x.tail)
  | s => if stK s < 0 ∨ (x.length : Int) ≤ stK s + 1 then none else handV (cageL ds (x.getD 0 0) (stCage s)) x s
def ResAt (K : PySem.W.Frag) (H : Hp) (v : V) : Option (List Int) → Prop
  | none => v = .non
  | some y => ∃ p, v = .ref p ∧ SqT K H p (y.map V.int)
theorem ResAt.same {K : PySem.W.Frag} {H H' : Hp} {v : V} {o : Option (List Int)} (s : Same H H') (h : ResAt K H v o) : ResAt K H' v o := by
  cases o with
  | none => exact h
  | some y => obtain ⟨p, e, t⟩ := h; exact ⟨p, e, s.tup t⟩
end L2

namespace L2
open PySem PySem.Spec PyProof.Rows
section
variable {X : Cx}
/-- in, over range(lo, hi) -/
def rInR (neg : Bool) : R2 := fun x y H Q => ∃ (r : Addr) (lo hi i : Int), x = .int i ∧ y = .ref r ∧ H r = some (.rng lo hi) ∧ Q (.bl (if neg = true then !decide (lo ≤ i ∧ i < hi) else decide (lo ≤ i ∧ i < hi))) H
/-- t + u, of any two tuples -/
def rCatA (K : PySem.W.Frag) : R2 := fun x y H Q => ∃ a b xs ys, x = .ref a ∧ y = .ref b ∧ SqT K H a xs ∧ SqT K H b ys ∧ xs.length + ys.length ≤ 1000 ∧ ∀ p H', Same H H' → SqT K H' p (xs ++ ys) → Q (.ref p) H'
end
def fits (row : List Int) (s : Int) : Bool := decide (¬ (s = 10 ∨ s = 11) ∨ ¬ s ∈ row)
end L2

namespace L2
open PySem PySem.Spec PyProof.Rows
/-! ### the works: standings, the book -/
structure Cl where
  (B Y S K W : Addr)
structure Snap where
  place : Int
  gates : List Bool
  fs : List Bool
  e : Eng
  ws : List Int
structure Cfg where
  ds : List Int
  ls : List Cd
  slow : Int
  fast : Int
  goals : List Int
  ks : List Str
  N : Addr → Prop := fun _ => False
structure SA where
  (dx ol b cs fl st y kn wh : Addr)
structure Apart (rl : Addr) (A : SA) : Prop where
  r1 : A.ol ≠ rl
  r2 : A.cs ≠ rl
  r3 : A.fl ≠ rl
  r4 : A.kn ≠ rl
  r5 : A.wh ≠ rl
  o1 : A.cs ≠ A.ol
  o2 : A.fl ≠ A.ol
  o3 : A.kn ≠ A.ol
  o4 : A.wh ≠ A.ol
  f1 : A.ol ≠ A.fl
  f2 : A.kn ≠ A.fl
  f3 : A.wh ≠ A.fl
  w1 : A.ol ≠ A.wh
  w2 : A.cs ≠ A.wh
  w3 : A.fl ≠ A.wh
  w4 : A.kn ≠ A.wh
/-- lists of others that the works keep off -/
structure Off (H : Hp) (rl : Addr) (N : Addr → Prop) (A : SA) : Prop where
  al : ∀ p, N p → ∃ ys, H p = some (.lst ys)
  nr : ∀ p, N p → rl ≠ p
  no : ∀ p, N p → A.ol ≠ p
  nc : ∀ p, N p → A.cs ≠ p
  nf : ∀ p, N p → A.fl ≠ p
  nk : ∀ p, N p → A.kn ≠ p
  nw : ∀ p, N p → A.wh ≠ p
theorem Off.keep {H H' : Hp} {rl q : Addr} {N : Addr → Prop} {A : SA} (h : Off H rl N A) (k : Keeps q H H') (hq : ∀ p, N p → q ≠ p) : Off H' rl N A := ⟨fun p hp => by
  obtain ⟨ys, e⟩ := h.al p hp
  exact ⟨ys, k _ _ (hq p hp).symm e⟩, h.nr, h.no, h.nc, h.nf, h.nk, h.nw⟩
theorem Off.same {H H' : Hp} {rl : Addr} {N : Addr → Prop} {A : SA} (h : Off H rl N A) (k : Same H H') : Off H' rl N A := ⟨fun p hp => by
  obtain ⟨ys, e⟩ := h.al p hp
  exact ⟨ys, k _ _ e⟩, h.nr, h.no, h.nc, h.nf, h.nk, h.nw⟩
theorem Off.keepI {H H' : Hp} {rl q C dx : Addr} {fs : List (Str × V)} {N : Addr → Prop} {A : SA} (h : Off H rl N A) (k : Keeps q H H') (hq : H q = some (.ins C dx fs)) : Off H' rl N A := h.keep k fun p hp z => by
  obtain ⟨ys, e⟩ := h.al p hp
  rw [← z, hq] at e
  cases e
structure StandX (C : Cl) (K : PySem.W.Frag) (H : Hp) (rl : Addr) (g : Cfg) (s : Addr) (A : SA) (n : Snap) : Prop where
  ob : H s = some (.ins C.S A.dx [("place", .int n.place), ("opened", .ref A.ol), ("bells", .ref A.b), ("yard", .ref A.y)])
  go : H A.ol = some (.lst (n.gates.map V.bl))
  be : BellsAt C.B K H A.b A.cs A.fl A.st g.ls n.fs n.e
  ya : YardAt C.Y H A.y A.kn A.wh g.ks n.ws g.ds.length
  ap : Apart rl A
  nn : Off H rl g.N A
def StandAt (C : Cl) (K : PySem.W.Frag) (H : Hp) (rl : Addr) (g : Cfg) (s : Addr) (n : Snap) : Prop := ∃ A, StandX C K H rl g s A n
theorem BellsAt.off {C : Addr} {K : PySem.W.Frag} {H H' : Hp} {p b cs fl st : Addr} {ls : List Cd} {fs : List Bool} {e : Eng} {ys : List V} (h : BellsAt C K H b cs fl st ls fs e) (s : Keeps p H H') (hp : H p = some (.lst ys)) (n1 : cs ≠ p) (n2 : fl ≠ p) : BellsAt C K H' b cs fl st ls fs e := by
  obtain ⟨⟨dx, a⟩, ⟨as, c, t⟩, f, g, n, l⟩ := h
  exact ⟨⟨dx, s _ _ (fun z => by rw [z, hp] at a; cases a) a⟩, ⟨as, s _ _ n1 c, t.keep s hp⟩, s _ _ n2 f, g.keep s hp, n, l⟩
theorem BellsAt.offI {C D dp : Addr} {K : PySem.W.Frag} {H H' : Hp} {p b cs fl st : Addr} {ls : List Cd} {fs : List Bool} {e : Eng} {us : List (Str × V)} (h : BellsAt C K H b cs fl st ls fs e) (s : Keeps p H H') (hp : H p = some (.ins D dp us)) (n1 : b ≠ p) : BellsAt C K H' b cs fl st ls fs e := by
  obtain ⟨⟨dx, a⟩, ⟨as, c, t⟩, f, g, n, l⟩ := h
  exact ⟨⟨dx, s _ _ n1 a⟩, ⟨as, s _ _ (fun z => by rw [z, hp] at c; cases c) c, t.keepI s hp⟩, s _ _ (fun z => by rw [z, hp] at f; cases f) f, g.keepI s hp, n, l⟩
theorem YardAt.offI {C D dp : Addr} {H H' : Hp} {p y kn wh : Addr} {ks : List Str} {ws : List Int} {m : Int} {us : List (Str × V)} (h : YardAt C H y kn wh ks ws m) (s : Keeps p H H') (hp : H p = some (.ins D dp us)) (n1 : y ≠ p) : YardAt C H' y kn wh ks ws m := by
  obtain ⟨⟨dx, a⟩, b, c⟩ := h
  exact ⟨⟨dx, s _ _ n1 a⟩, s _ _ (fun z => by rw [z, hp] at b; cases b) b, s _ _ (fun z => by rw [z, hp] at c; cases c) c⟩
section
variable {C : Cl} {K : PySem.W.Frag} {H H' : Hp} {rl s a w bk : Addr} {g : Cfg} {A : SA} {n n0 : Snap}
theorem StandX.same (h : StandX C K H rl g s A n) (e : Same H H') : StandX C K H' rl g s A n := ⟨e _ _ h.ob, e _ _ h.go, h.be.same e, h.ya.same e, h.ap, h.nn.same e⟩
theorem StandX.keep {ys : List V} (h : StandX C K H rl g s A n) (e : Keeps rl H H') (hr : H rl = some (.lst ys)) : StandX C K H' rl g s A n :=
  ⟨e _ _ (fun z => by have := h.ob; rw [z, hr] at this; cases this) h.ob, e _ _ h.ap.r1 h.go, h.be.off e hr h.ap.r2 h.ap.r3, h.ya.off e hr h.ap.r4 h.ap.r5, h.ap, h.nn.keep e h.nn.nr⟩
theorem StandX.at (h : StandX C K H rl g s A n) : StandAt C K H rl g s n := ⟨A, h⟩
theorem StandAt.same (h : StandAt C K H rl g s n) (e : Same H H') : StandAt C K H' rl g s n := by
  obtain ⟨A, h⟩ := h
  exact ⟨A, h.same e⟩
theorem StandAt.keep {ys : List V} (h : StandAt C K H rl g s n) (e : Keeps rl H H') (hr : H rl = some (.lst ys)) : StandAt C K H' rl g s n := by
  obtain ⟨A, h⟩ := h
  exact ⟨A, h.keep e hr⟩
/-- a gate is turned -/
theorem StandX.gates (h : StandX C K H rl g s A n) (e : Keeps A.ol H H') {gs : List Bool} (hg : H' A.ol = some (.lst (gs.map V.bl))) : StandX C K H' rl g s A { n with gates := gs } :=
  ⟨e _ _ (fun z => by have := h.ob; rw [z, h.go] at this; cases this) h.ob, hg, h.be.off e h.go h.ap.o1 h.ap.o2, h.ya.off e h.go h.ap.o3 h.ap.o4, h.ap, h.nn.keep e h.nn.no⟩
structure Row where
  began : Int
  ended : Int
  deed : List V
  speed : Int
  sn : Snap
def RowAt (C : Cl) (K : PySem.W.Frag) (H : Hp) (rl : Addr) (g : Cfg) (a : Addr) (r : Row) : Prop := ∃ dd s, SqT K H a [.int r.began, .int r.ended, .ref dd, .int r.speed, .ref s] ∧ SqT K H dd r.deed ∧ StandAt C K H rl g s r.sn
theorem RowAt.same {r : Row} (h : RowAt C K H rl g a r) (e : Same H H') : RowAt C K H' rl g a r := by
  obtain ⟨dd, s, h1, h2, h3⟩ := h
  exact ⟨dd, s, e.tup h1, e.tup h2, h3.same e⟩
theorem RowAt.keep {r : Row} {ys : List V} (h : RowAt C K H rl g a r) (e : Keeps rl H H') (hr : H rl = some (.lst ys)) : RowAt C K H' rl g a r := by
  obtain ⟨dd, s, h1, h2, h3⟩ := h
  exact ⟨dd, s, h1.keep e hr, h2.keep e hr, h3.keep e hr⟩
def Rows (C : Cl) (K : PySem.W.Frag) (H : Hp) (rl : Addr) (g : Cfg) (as : List Addr) (rs : List Row) : Prop := as.length = rs.length ∧ ∀ (i : Nat) a r, as[i]? = some a → rs[i]? = some r → RowAt C K H rl g a r
theorem Rows.same {as : List Addr} {rs : List Row} (h : Rows C K H rl g as rs) (e : Same H H') : Rows C K H' rl g as rs := ⟨h.1, fun i a r e1 e2 => (h.2 i a r e1 e2).same e⟩
theorem Rows.keep {as : List Addr} {rs : List Row} {ys : List V} (h : Rows C K H rl g as rs) (e : Keeps rl H H') (hr : H rl = some (.lst ys)) : Rows C K H' rl g as rs := ⟨h.1, fun i a r e1 e2 => (h.2 i a r e1 e2).keep e hr⟩
theorem Rows.push {as : List Addr} {rs : List Row} {r : Row} (h : Rows C K H rl g as rs) (hr : RowAt C K H rl g a r) : Rows C K H rl g (as ++ [a]) (rs ++ [r]) := by
  refine ⟨by rw [List.length_append, List.length_append, h.1]; rfl, fun i b x e1 e2 => ?_⟩
  by_cases hi : i < as.length
  · rw [List.getElem?_append_left hi] at e1
    rw [List.getElem?_append_left (by rw [← h.1]; exact hi)] at e2
    exact h.2 i b x e1 e2
  · rw [List.getElem?_append_right (by omega)] at e1
    rw [List.getElem?_append_right (by rw [← h.1]; omega), ← h.1] at e2
    have hz : i - as.length = 0 := by
      have := (List.getElem?_eq_some_iff.mp e1).1
      simp at this
      omega
    rw [hz] at e1 e2
    cases e1
    cases e2
    exact hr
def lastSn (n0 : Snap) (rs : List Row) : Snap := match rs.getLast? with | none => n0 | some r => r.sn
def nowF (rs : List Row) : Int := match rs.getLast? with | none => 0 | some r => r.ended
structure BAt (C : Cl) (K : PySem.W.Frag) (H : Hp) (bk rl : Addr) (g : Cfg) (n0 : Snap) (rs : List Row) : Prop where
  ob : ∃ dx f, H bk = some (.ins C.K dx [("first", .ref f), ("most", .int 300), ("rows", .ref rl)]) ∧ StandAt C K H rl g f n0
  ro : ∃ as, H rl = some (.lst (as.map V.ref)) ∧ Rows C K H rl g as rs
theorem BAt.same {rs : List Row} (h : BAt C K H bk rl g n0 rs) (e : Same H H') : BAt C K H' bk rl g n0 rs := by
  obtain ⟨⟨dx, f, h1, h2⟩, as, h3, h4⟩ := h
  exact ⟨⟨dx, f, e _ _ h1, h2.same e⟩, as, e _ _ h3, h4.same e⟩
structure WAt (C : Cl) (K : PySem.W.Frag) (H : Hp) (w bk rl : Addr) (g : Cfg) (n0 : Snap) (rs : List Row) : Prop where
  ob : ∃ dx dl gl, H w = some (.ins C.W dx [("depths", .ref dl), ("slow", .int g.slow), ("fast", .int g.fast), ("goals", .ref gl), ("log", .ref bk)]) ∧ H dl = some (.lst (g.ds.map V.int)) ∧ H gl = some (.lst (g.goals.map V.int)) ∧ dl ≠ rl ∧ gl ≠ rl ∧ (∀ p, g.N p → dl ≠ p) ∧ ∀ p, g.N p → gl ≠ p
  bo : BAt C K H bk rl g n0 rs
theorem WAt.same {rs : List Row} (h : WAt C K H w bk rl g n0 rs) (e : Same H H') : WAt C K H' w bk rl g n0 rs := by
  obtain ⟨⟨dx, dl, gl, h1, h2, h3, h4⟩, h5⟩ := h
  exact ⟨⟨dx, dl, gl, e _ _ h1, e _ _ h2, e _ _ h3, h4⟩, h5.same e⟩
theorem WAt.keep {rs rs' : List Row} {ys : List V} (h : WAt C K H w bk rl g n0 rs) (e : Keeps rl H H') (hr : H rl = some (.lst ys)) (hb : BAt C K H' bk rl g n0 rs') : WAt C K H' w bk rl g n0 rs' := by
  obtain ⟨⟨dx, dl, gl, h1, h2, h3, h4, h6⟩, h5⟩ := h
  exact ⟨⟨dx, dl, gl, e _ _ (fun z => by rw [z, hr] at h1; cases h1) h1, e _ _ h4 h2, e _ _ h6.1 h3, h4, h6⟩, hb⟩
end
theorem nil_or_snoc {α : Type} (l : List α) : l = [] ∨ ∃ l' a, l = l' ++ [a] := by
  rcases List.eq_nil_or_concat l with h | ⟨l', a, h⟩
  · exact .inl h
  · exact .inr ⟨l', a, by rw [h, List.concat_eq_append]⟩
theorem Rows.last {C : Cl} {K : PySem.W.Frag} {H : Hp} {rl : Addr} {g : Cfg} {as : List Addr} {rs : List Row} {r : Row} (h : Rows C K H rl g as (rs ++ [r])) : ∃ as' a, as = as' ++ [a] ∧ Rows C K H rl g as' rs ∧ RowAt C K H rl g a r := by
  have hl := h.1
  rw [List.length_append, List.length_singleton] at hl
  rcases nil_or_snoc as with rfl | ⟨as', a, rfl⟩
  · cases hl
  · have hl' : as'.length = rs.length := by rw [List.length_append, List.length_singleton] at hl; omega
    refine ⟨as', a, rfl, ⟨hl', fun i b x e1 e2 => ?_⟩, ?_⟩
    · have hi := (List.getElem?_eq_some_iff.mp e1).1
      exact h.2 i b x (by rw [List.getElem?_append_left hi]; exact e1) (by rw [List.getElem?_append_left (by omega)]; exact e2)
    · refine h.2 as'.length a r ?_ ?_
      · rw [List.getElem?_append_right (Nat.le_refl _)]; simp
      · rw [List.getElem?_append_right (by omega), hl']; simp
theorem atI_lastA {as : List Addr} {a : Addr} : atI ((as ++ [a]).map V.ref) (((as ++ [a]).map V.ref).length - 1 : Int) = some (.ref a) := by
  rw [show ((((as ++ [a]).map V.ref).length : Int) - 1) = ((as.length : Nat) : Int) by rw [List.length_map, List.length_append]; simp]
  exact atI_of (by rw [List.map_append, List.getElem?_append_right (by rw [List.length_map]; exact Nat.le_refl _), List.length_map]; simp)
theorem nowF_last (rs : List Row) (r : Row) : nowF (rs ++ [r]) = r.ended := by simp [nowF]
theorem lastSn_last (n0 : Snap) (rs : List Row) (r : Row) : lastSn n0 (rs ++ [r]) = r.sn := by simp [lastSn]
theorem madeSame {H H' : Hp} {x dx : Addr} {o1 o2 : HO} (hx : H x = none) (hdx : H dx = none) (kp : Keeps x (upd (upd H dx o1) x o2) H') : Same H H' := fun b o e => kp b o (ne_of_none e hx) (by rw [upd_ne (ne_of_none e hx), upd_ne (ne_of_none e hdx)]; exact e)
theorem madeFree {H : Hp} {x dx z : Addr} {o1 o2 : HO} (h : upd (upd H dx o1) x o2 z = none) : H z = none := upn (upn h)
end L2

namespace L2
open PySem PySem.Spec PyProof.Rows
/-! ### the works as a model: deeds, what is refused, what comes of them -/
def menB (ks : List Str) (ws : List Int) : Bool := (ks.zip ws).any fun p => decide (p.1 = "men") && decide (p.2 = 10 ∨ p.2 = 11)
theorem menB_take {ks : List Str} {ws : List Int} {i : Nat} (h : ∀ j k x, j < i → ks[j]? = some k → ws[j]? = some x → (decide (k = "men") && decide (x = 10 ∨ x = 11)) = false) (hi : ks.length ≤ i ∨ ws.length ≤ i) : menB ks ws = false := by
  unfold menB
  rw [List.any_eq_false]
  intro p hp
  obtain ⟨j, hj⟩ := List.getElem?_of_mem hp
  rw [List.getElem?_zip_eq_some] at hj
  have h1 := (List.getElem?_eq_some_iff.mp hj.1).1
  have h2 := (List.getElem?_eq_some_iff.mp hj.2).1
  rw [h j p.1 p.2 (by omega) hj.1 hj.2]
  exact Bool.false_ne_true
theorem menB_hit {ks : List Str} {ws : List Int} {i : Nat} {k : Str} {x : Int} (h1 : ks[i]? = some k) (h2 : ws[i]? = some x) (hk : k = "men") (hx : x = 10 ∨ x = 11) : menB ks ws = true := by
  unfold menB
  rw [List.any_eq_true]
  refine ⟨(k, x), List.mem_of_getElem? (i := i) (by rw [List.getElem?_zip_eq_some]; exact ⟨h1, h2⟩), ?_⟩
  simp [hk, hx]
theorem inV_spots (x : Int) : inV (.int x) [.int 10, .int 11] = decide (x = 10 ∨ x = 11) := by
  have := inV_int x [10, 11]
  rw [show ([10, 11] : List Int).map V.int = [V.int 10, V.int 11] from rfl] at this
  rw [this]
  simp
/-- the levels at which a cage stands -/
def gatesOf (ds : List Int) (pl : Int) : List Int := ((List.range ds.length).filter fun i => decide (ds.getD i 0 = pl ∨ ds.getD i 0 = whole ds - pl)).map fun (i : Nat) => (i : Int)
structure CfgOk (g : Cfg) : Prop where
  sh : Shaft g.ds
  lc : g.ls.length = g.ds.length
  gc : ∀ x ∈ g.ls, GoodCd x
  s1 : 1 ≤ g.slow
  sf : g.slow ≤ g.fast
  f5 : g.fast ≤ 500
  gk : g.goals.length = g.ks.length
  k30 : g.ks.length ≤ 30
def speedF (g : Cfg) (n : Snap) : Int := if menB g.ks n.ws = true then g.slow else g.fast
theorem CfgOk.speed {g : Cfg} (h : CfgOk g) (n : Snap) : 1 ≤ speedF g n ∧ speedF g n ≤ 500 := by
  have := h.s1; have := h.sf; have := h.f5
  unfold speedF; split <;> omega
inductive Dd where
  | ring (l s : Int) | rept (s : Int) | opn (l : Int) | sht (l : Int) | load (k c : Int) | unload (c : Int) | wind (c l : Int) (k : Str) | fail (l : Int)
def ddV : Dd → List V
  | .ring l s => [.str "ring", .int l, .int s]
  | .rept s => [.str "repeat", .int s]
  | .opn l => [.str "open", .int l]
  | .sht l => [.str "shut", .int l]
  | .load k c => [.str "load", .int k, .int c]
  | .unload c => [.str "unload", .int c]
  | .wind c l k => [.str "wind", .int c, .int l, .str k]
  | .fail l => [.str "fail", .int l]
theorem ddV_flat (d : Dd) : ∀ x ∈ ddV d, flatV x = true := by
  cases d <;> intro x hx <;> simp only [ddV, List.mem_cons, List.not_mem_nil, or_false] at hx <;> rcases hx with h | h | h | h <;> (try subst h) <;> (try rfl) <;> simp_all [flatV]
theorem ddV_len (d : Dd) : (ddV d).length ≤ 4 := by cases d <;> simp [ddV]
def ddOk : Dd → Prop
  | .load _ c => 0 ≤ c ∧ c < 2
  | .unload c => 0 ≤ c ∧ c < 2
  | .wind c _ k => (0 ≤ c ∧ c < 2) ∧ (k = "men" ∨ k = "coal")
  | _ => True
inductive Rw where
  | lv | db | nc | nr | ch | na | ul | nt | ct | gs | ce | go
  deriving DecidableEq
def unk (l : Int) (m : Nat) : Prop := ¬ (0 ≤ l ∧ l < m)
instance (l : Int) (m : Nat) : Decidable (unk l m) := inferInstanceAs (Decidable (¬ _))
def openBy (g : Cfg) (n : Snap) : Bool := (gatesOf g.ds n.place).any fun x => n.gates.getD x.toNat false
def refD (g : Cfg) (n : Snap) : Dd → Option Rw
  | .ring l s => if unk l g.ds.length then some .lv else if n.fs.getD l.toNat false = true then some .db else if s = (cdOf g.ls l).1 ∨ s = (cdOf g.ls l).2 then none else some .nc
  | .rept s => match n.e with | .wait _ _ => if 1 ≤ s ∧ s ≤ 9 then none else some .nc | _ => some .nr
  | .opn l => if unk l g.ds.length then some .lv else if n.gates.getD l.toNat false = true then some .ch else none
  | .sht l => if unk l g.ds.length then some .lv else if n.gates.getD l.toNat false = false then some .ch else none
  | .load k c => if unk k n.ws.length then some .ul else match cageL g.ds n.place c with
    | none => some .nt
    | some l => if n.ws.getD k.toNat 0 ≠ l then some .nt else if 10 + c ∈ n.ws then some .ct else if n.gates.getD l.toNat false = true then none else some .gs
  | .unload c => if ¬ 10 + c ∈ n.ws then some .ce else match cageL g.ds n.place c with
    | none => some .nt
    | some l => if n.gates.getD l.toNat false = true then none else some .gs
  | .wind _ l k => if unk l g.ds.length then some .lv else if openBy g n = true then some .go else if n.e = .armed l (codeOf g.ls l k) then none else some .na
  | .fail l => if unk l g.ds.length then some .lv else if n.fs.getD l.toNat false = true then some .ch else none
def woundF (ds : List Int) (c l : Int) : Int := if c = 0 then ds.getD l.toNat 0 else whole ds - ds.getD l.toNat 0
def engD (g : Cfg) (n : Snap) : Dd → Eng
  | .ring l s => .wait l s
  | .rept s => match n.e with | .wait l r => if s = r then .armed l r else .other l r s | e => e
  | .wind _ l k => .used l (codeOf g.ls l k)
  | _ => n.e
def nextD (g : Cfg) (n : Snap) (d : Dd) : Snap :=
  { place := match d with | .wind c l _ => woundF g.ds c l | _ => n.place
    gates := match d with | .opn l => n.gates.set l.toNat true | .sht l => n.gates.set l.toNat false | _ => n.gates
    fs := match d with | .fail l => n.fs.set l.toNat true | _ => n.fs
    e := engD g n d
    ws := match d with | .load k c => n.ws.set k.toNat (10 + c) | .unload c => n.ws.set (n.ws.idxOf (10 + c)) ((cageL g.ds n.place c).getD (-1)) | _ => n.ws }
def absI (x : Int) : Int := if x < 0 then -x else x
def lastsF (way sp : Int) : Int := (way + sp - 1) / sp
def ticksD (g : Cfg) (n : Snap) : Dd → Int
  | .wind c l _ => lastsF (absI (woundF g.ds c l - n.place)) (speedF g n)
  | _ => 1
def rowOf (g : Cfg) (n0 : Snap) (rs : List Row) (d : Dd) : Row := ⟨nowF rs, nowF rs + ticksD g (lastSn n0 rs) d, ddV d, speedF g (nextD g (lastSn n0 rs) d), nextD g (lastSn n0 rs) d⟩
structure SnapOk (g : Cfg) (n : Snap) : Prop where
  gl : n.gates.length = g.ds.length
  fl : n.fs.length = g.ds.length
  wl : n.ws.length = g.ks.length
  wr : ∀ x ∈ n.ws, (0 ≤ x ∧ x < g.ds.length) ∨ x = 10 ∨ x = 11
  un : ∀ i j, i < n.ws.length → j < n.ws.length → 10 ≤ n.ws.getD i 0 → n.ws.getD i 0 = n.ws.getD j 0 → i = j
  st : ∃ c, (c = 0 ∨ c = 1) ∧ ∃ l, cageL g.ds n.place c = some l
  ew : ∀ l r, n.e = .wait l r ∨ n.e = .armed l r → 0 ≤ l ∧ l < g.ds.length ∧ (r = (cdOf g.ls l).1 ∨ r = (cdOf g.ls l).2)
theorem getD_setI (ws : List Int) (n i : Nat) (v : Int) (hi : i < ws.length) : (ws.set n v).getD i 0 = if n = i then v else ws.getD i 0 := by
  rw [List.getD_eq_getElem?_getD, List.getD_eq_getElem?_getD, List.getElem?_set]
  split
  · rename_i e
    subst e
    rw [if_pos hi]; rfl
  · rfl
theorem lvl_spec {ds : List Int} {d l : Int} (h : lvl ds d = some l) : 0 ≤ l ∧ l < ds.length ∧ ds.getD l.toNat 0 = d := by
  unfold lvl at h
  split at h
  · rename_i hm
    cases h
    have hlt := List.idxOf_lt_length_iff.mpr hm
    refine ⟨Int.natCast_nonneg _, by omega, ?_⟩
    rw [Int.toNat_natCast, List.getD_eq_getElem?_getD, List.getElem?_eq_getElem hlt]
    exact List.getElem_idxOf hlt
  · cases h
theorem cageL_spec {ds : List Int} {p c l : Int} (h : cageL ds p c = some l) : 0 ≤ l ∧ l < ds.length ∧ ds.getD l.toNat 0 = (if c = 0 then p else whole ds - p) := by
  unfold cageL at h
  split at h
  · rename_i e; rw [if_pos e]; exact lvl_spec h
  · rename_i e; rw [if_neg e]; exact lvl_spec h
theorem mem_setI {ws : List Int} {n : Nat} {v x : Int} (h : x ∈ ws.set n v) : x ∈ ws ∨ x = v := List.mem_or_eq_of_mem_set h
theorem stop_wound {ds : List Int} (hs : Shaft ds) {c l : Int} (hc : 0 ≤ c ∧ c < 2) (hl : 0 ≤ l ∧ l < ds.length) : cageL ds (woundF ds c l) c = some l := by
  obtain ⟨k, rfl⟩ := Int.eq_ofNat_of_zero_le hl.1
  unfold cageL woundF
  split
  · exact lvl_some hs (by omega) (by rw [Int.toNat_natCast])
  · exact lvl_some hs (by omega) (by rw [Int.toNat_natCast]; omega)
theorem ifn {c : Prop} [Decidable c] {a : Rw} {x : Option Rw} (h : (if c then some a else x) = none) : ¬ c ∧ x = none := by
  split at h
  · cases h
  · rename_i n; exact ⟨n, h⟩
theorem ify {c : Prop} [Decidable c] {a : Rw} (h : (if c then none else some a) = none) : c := by
  split at h
  · assumption
  · cases h
theorem not_unk {l : Int} {m : Nat} (h : ¬ unk l m) : 0 ≤ l ∧ l < m := Decidable.not_not.mp h
theorem ref_ring {g : Cfg} {n : Snap} {l s : Int} (h : refD g n (.ring l s) = none) : (0 ≤ l ∧ l < g.ds.length) ∧ n.fs.getD l.toNat false = false ∧ (s = (cdOf g.ls l).1 ∨ s = (cdOf g.ls l).2) := by
  obtain ⟨h1, h⟩ := ifn h
  obtain ⟨h2, h⟩ := ifn h
  exact ⟨not_unk h1, by simpa using h2, ify h⟩
theorem ref_rept {g : Cfg} {n : Snap} {s : Int} (h : refD g n (.rept s) = none) : ∃ l r, n.e = .wait l r ∧ 1 ≤ s ∧ s ≤ 9 := by
  simp only [refD] at h
  split at h
  · rename_i l r e; exact ⟨l, r, e, ify h⟩
  · cases h
theorem ref_load {g : Cfg} {n : Snap} {k c : Int} (h : refD g n (.load k c) = none) : (0 ≤ k ∧ k < n.ws.length) ∧ ∃ l, cageL g.ds n.place c = some l ∧ n.ws.getD k.toNat 0 = l ∧ ¬ 10 + c ∈ n.ws ∧ n.gates.getD l.toNat false = true := by
  obtain ⟨h1, h⟩ := ifn h
  refine ⟨not_unk h1, ?_⟩
  cases e : cageL g.ds n.place c with
  | none => rw [e] at h; cases h
  | some l =>
    rw [e] at h
    obtain ⟨h2, h⟩ := ifn h
    obtain ⟨h3, h⟩ := ifn h
    exact ⟨l, rfl, Decidable.not_not.mp h2, h3, ify h⟩
theorem ref_unload {g : Cfg} {n : Snap} {c : Int} (h : refD g n (.unload c) = none) : 10 + c ∈ n.ws ∧ ∃ l, cageL g.ds n.place c = some l ∧ n.gates.getD l.toNat false = true := by
  obtain ⟨h1, h⟩ := ifn h
  refine ⟨Decidable.not_not.mp h1, ?_⟩
  cases e : cageL g.ds n.place c with
  | none => rw [e] at h; cases h
  | some l => rw [e] at h; exact ⟨l, rfl, ify h⟩
theorem ref_wind {g : Cfg} {n : Snap} {c l : Int} {k : Str} (h : refD g n (.wind c l k) = none) : (0 ≤ l ∧ l < g.ds.length) ∧ openBy g n = false ∧ n.e = .armed l (codeOf g.ls l k) := by
  obtain ⟨h1, h⟩ := ifn h
  obtain ⟨h2, h⟩ := ifn h
  exact ⟨not_unk h1, by simpa using h2, ify h⟩
theorem SnapOk.next {g : Cfg} {n : Snap} {d : Dd} (hg : CfgOk g) (h : SnapOk g n) (ok : ddOk d) (hr : refD g n d = none) : SnapOk g (nextD g n d) := by
  have hds := hg.sh.l6
  cases d with
  | ring l s =>
    obtain ⟨h1, _, h3⟩ := ref_ring hr
    exact ⟨h.gl, h.fl, h.wl, h.wr, h.un, h.st, fun l' r e => by
      simp only [nextD, engD] at e
      rcases e with e | e
      · cases e; exact ⟨h1.1, h1.2, h3⟩
      · cases e⟩
  | rept s =>
    refine ⟨h.gl, h.fl, h.wl, h.wr, h.un, h.st, fun l' r e => ?_⟩
    simp only [nextD, engD] at e
    obtain ⟨l0, r0, e0, _⟩ := ref_rept hr
    rw [e0] at e
    simp only at e
    have := h.ew l0 r0 (.inl e0)
    split at e
    · rcases e with e | e
      · cases e
      · cases e; exact this
    · rcases e with e | e <;> cases e
  | opn l => exact ⟨by simp only [nextD]; rw [List.length_set]; exact h.gl, h.fl, h.wl, h.wr, h.un, h.st, h.ew⟩
  | sht l => exact ⟨by simp only [nextD]; rw [List.length_set]; exact h.gl, h.fl, h.wl, h.wr, h.un, h.st, h.ew⟩
  | fail l => exact ⟨h.gl, by simp only [nextD]; rw [List.length_set]; exact h.fl, h.wl, h.wr, h.un, h.st, h.ew⟩
  | load k c =>
    obtain ⟨h1, l, hl, h3, h4, _⟩ := ref_load hr
    have hc : 0 ≤ c ∧ c < 2 := ok
    refine ⟨h.gl, h.fl, by simp only [nextD]; rw [List.length_set]; exact h.wl, fun x hx => ?_, fun i j hi hj h10 e => ?_, h.st, h.ew⟩
    · rcases mem_setI hx with hx | rfl
      · exact h.wr x hx
      · omega
    · simp only [nextD, List.length_set] at hi hj h10 e
      rw [getD_setI _ _ _ _ hi] at h10 e
      rw [getD_setI _ _ _ _ hj] at e
      split at e <;> split at e
      · omega
      · exact absurd (e ▸ getD_memI hj) h4
      · exact absurd (e ▸ getD_memI hi) h4
      · rename_i n1 n2; rw [if_neg n1] at h10; exact h.un i j hi hj h10 e
  | unload c =>
    obtain ⟨h1, l, hl, _⟩ := ref_unload hr
    obtain ⟨l0, l1, l2⟩ := cageL_spec hl
    refine ⟨h.gl, h.fl, by simp only [nextD]; rw [List.length_set]; exact h.wl, fun x hx => ?_, fun i j hi hj h10 e => ?_, h.st, h.ew⟩
    · simp only [nextD, hl, Option.getD_some] at hx
      rcases mem_setI hx with hx | rfl
      · exact h.wr x hx
      · exact .inl ⟨l0, l1⟩
    · simp only [nextD, List.length_set, hl, Option.getD_some] at hi hj h10 e
      rw [getD_setI _ _ _ _ hi] at h10 e
      rw [getD_setI _ _ _ _ hj] at e
      split at e
      · rename_i n1; rw [if_pos n1] at h10; omega
      · rename_i n1
        rw [if_neg n1] at h10
        split at e
        · omega
        · exact h.un i j hi hj h10 e
  | wind c l k =>
    obtain ⟨h1, _⟩ := ref_wind hr
    refine ⟨h.gl, h.fl, h.wl, h.wr, h.un, ⟨c, by have := ok.1; omega, l, stop_wound hg.sh ok.1 h1⟩, fun l' r e => ?_⟩
    simp only [nextD, engD] at e
    rcases e with e | e <;> cases e
theorem SnapOk.place {g : Cfg} {n : Snap} (hg : CfgOk g) (h : SnapOk g n) : 0 ≤ n.place ∧ n.place ≤ whole g.ds := by
  obtain ⟨c, hc, l, hl⟩ := h.st
  obtain ⟨l0, l1, l2⟩ := cageL_spec hl
  have hm : g.ds.getD l.toNat 0 ∈ g.ds := getD_memI (by omega)
  have := hg.sh.lo _ hm
  have := hg.sh.le_whole hm
  split at l2 <;> omega
end L2

namespace L2
open PySem PySem.Spec PyProof.Rows
/-! ### the bells that have failed -/
def deadTo (fs : List Bool) (i : Nat) : List Int := ((List.range i).filter fun j => fs.getD j false).map fun (j : Nat) => (j : Int)
def deadL (fs : List Bool) : List Int := deadTo fs fs.length
/-! ### a standing that is changed in one place -/
theorem Same.keeps {H H1 H2 : Hp} {p : Addr} (s : Same H H1) (k : Keeps p H1 H2) (hp : H p = none) : Same H H2 := fun b o e => k b o (ne_of_none e hp) (s b o e)
section
variable {C : Cl} {K : PySem.W.Frag} {H H' : Hp} {rl s : Addr} {g : Cfg} {A : SA} {n : Snap}
theorem StandX.ne_b (h : StandX C K H rl g s A n) : s ≠ A.b := fun z => by
  obtain ⟨dx, hb⟩ := h.be.ob
  have := h.ob
  rw [z, hb] at this
  injection this with this
  injection this with _ _ this
  injection this with this _
  injection this with this _
  exact absurd this (by decide)
theorem StandX.ne_by (h : StandX C K H rl g s A n) : A.y ≠ A.b := fun z => by
  obtain ⟨dx, hb⟩ := h.ya.ob
  obtain ⟨dx2, hb2⟩ := h.be.ob
  rw [z, hb2] at hb
  injection hb with this
  injection this with _ _ this
  injection this with this _
  injection this with this _
  exact absurd this (by decide)
theorem StandX.bells {st' : Addr} {e' : Eng} (h : StandX C K H rl g s A n) (k : Keeps A.b H H') (hb : BellsAt C.B K H' A.b A.cs A.fl st' g.ls n.fs e') : StandX C K H' rl g s { A with st := st' } { n with e := e' } := by
  obtain ⟨dx, hb0⟩ := h.be.ob
  refine ⟨k _ _ h.ne_b h.ob, k _ _ (fun z => ?_) h.go, hb, h.ya.offI k hb0 h.ne_by, ⟨h.ap.r1, h.ap.r2, h.ap.r3, h.ap.r4, h.ap.r5, h.ap.o1, h.ap.o2, h.ap.o3, h.ap.o4, h.ap.f1, h.ap.f2, h.ap.f3, h.ap.w1, h.ap.w2, h.ap.w3, h.ap.w4⟩, ⟨(h.nn.keepI k hb0).al, h.nn.nr, h.nn.no, h.nn.nc, h.nn.nf, h.nn.nk, h.nn.nw⟩⟩
  have := h.go
  rw [z, hb0] at this
  cases this
theorem StandX.fail {fs' : List Bool} (h : StandX C K H rl g s A n) (k : Keeps A.fl H H') (hf : H' A.fl = some (.lst (fs'.map V.bl))) (hl : fs'.length = n.fs.length) : StandX C K H' rl g s A { n with fs := fs' } := by
  refine ⟨k _ _ (fun z => ?_) h.ob, k _ _ h.ap.f1 h.go, h.be.fail k hf hl, h.ya.off k h.be.of h.ap.f2 h.ap.f3, h.ap, h.nn.keep k h.nn.nf⟩
  have := h.be.of
  rw [← z, h.ob] at this
  cases this
/-- one of the others' lists is changed -/
theorem StandX.own {p : Addr} {ys : List V} (h : StandX C K H rl g s A n) (hp : g.N p) (k : Keeps p H H') (e : H' p = some (.lst ys)) : StandX C K H' rl g s A n := by
  obtain ⟨zs, hz⟩ := h.nn.al p hp
  refine ⟨k _ _ (fun z => by have := h.ob; rw [z, hz] at this; cases this) h.ob, k _ _ (h.nn.no p hp) h.go, h.be.off k hz (h.nn.nc p hp) (h.nn.nf p hp), h.ya.off k hz (h.nn.nk p hp) (h.nn.nw p hp), h.ap, ⟨fun q hq => ?_, h.nn.nr, h.nn.no, h.nn.nc, h.nn.nf, h.nn.nk, h.nn.nw⟩⟩
  by_cases e1 : q = p
  · subst e1; exact ⟨ys, e⟩
  · obtain ⟨us, hu⟩ := h.nn.al q hq
    exact ⟨us, k _ _ e1 hu⟩
def Cfg.plus (g : Cfg) (p : Addr) : Cfg := { g with N := fun q => g.N q ∨ q = p }
/-- one more list of others' -/
theorem StandX.grow {p : Addr} {ys : List V} (h : StandX C K H rl g s A n) (hr : rl ≠ p) (hn : H p = none) (k : Same H H') (e : H' p = some (.lst ys)) : StandX C K H' rl (g.plus p) s A n := by
  have h' := h.same k
  obtain ⟨_, ⟨as, oc, _⟩, of, _⟩ := id h.be
  obtain ⟨_, okn, owh⟩ := id h.ya
  refine ⟨h'.ob, h'.go, h'.be, h'.ya, h'.ap, ⟨fun q hq => ?_, fun q hq => ?_, fun q hq => ?_, fun q hq => ?_, fun q hq => ?_, fun q hq => ?_, fun q hq => ?_⟩⟩
  · rcases hq with hq | rfl
    · exact h'.nn.al q hq
    · exact ⟨ys, e⟩
  · rcases hq with hq | rfl
    · exact h.nn.nr q hq
    · exact hr
  · rcases hq with hq | rfl
    · exact h.nn.no q hq
    · exact ne_of_none h.go hn
  · rcases hq with hq | rfl
    · exact h.nn.nc q hq
    · exact ne_of_none oc hn
  · rcases hq with hq | rfl
    · exact h.nn.nf q hq
    · exact ne_of_none of hn
  · rcases hq with hq | rfl
    · exact h.nn.nk q hq
    · exact ne_of_none okn hn
  · rcases hq with hq | rfl
    · exact h.nn.nw q hq
    · exact ne_of_none owh hn
end
section
variable {C : Cl} {K : PySem.W.Frag} {H H' : Hp} {rl s w bk : Addr} {g : Cfg} {n n0 : Snap} {rs : List Row}
theorem WAt.rows (h : WAt C K H w bk rl g n0 rs) : ∃ as : List Addr, H rl = some (.lst (as.map V.ref)) := by
  obtain ⟨as, hr, _⟩ := h.bo.ro
  exact ⟨as, hr⟩
theorem WAt.own {p : Addr} {ys : List V} (h : WAt C K H w bk rl g n0 rs) (hp : g.N p) (k : Keeps p H H') (e : H' p = some (.lst ys)) : WAt C K H' w bk rl g n0 rs := by
  obtain ⟨⟨dx, dl, gl, h1, h2, h3, h4, h5, h6, h7⟩, ⟨dy, f, h8, A, h9⟩, as, h10, h11⟩ := h
  obtain ⟨zs, hz⟩ := h9.nn.al p hp
  refine ⟨⟨dx, dl, gl, k _ _ (fun z => by rw [z, hz] at h1; cases h1) h1, k _ _ (h6 p hp) h2, k _ _ (h7 p hp) h3, h4, h5, h6, h7⟩, ⟨dy, f, k _ _ (fun z => by rw [z, hz] at h8; cases h8) h8, A, h9.own hp k e⟩, as, k _ _ (h9.nn.nr p hp) h10, h11.1, fun i a r e1 e2 => ?_⟩
  obtain ⟨dd, s, u1, u2, A', u3⟩ := h11.2 i a r e1 e2
  exact ⟨dd, s, u1.keep k hz, u2.keep k hz, A', u3.own hp k e⟩
theorem WAt.grow {p : Addr} {ys : List V} (h : WAt C K H w bk rl g n0 rs) (hn : H p = none) (k : Same H H') (e : H' p = some (.lst ys)) : WAt C K H' w bk rl (g.plus p) n0 rs := by
  obtain ⟨⟨dx, dl, gl, h1, h2, h3, h4, h5, h6, h7⟩, ⟨dy, f, h8, A, h9⟩, as, h10, h11⟩ := h
  have hr : rl ≠ p := ne_of_none h10 hn
  refine ⟨⟨dx, dl, gl, k _ _ h1, k _ _ h2, k _ _ h3, h4, h5, fun q hq => ?_, fun q hq => ?_⟩, ⟨dy, f, k _ _ h8, A, h9.grow hr hn k e⟩, as, k _ _ h10, h11.1, fun i a r e1 e2 => ?_⟩
  · rcases hq with hq | rfl
    · exact h6 q hq
    · exact ne_of_none h2 hn
  · rcases hq with hq | rfl
    · exact h7 q hq
    · exact ne_of_none h3 hn
  · obtain ⟨dd, s, u1, u2, A', u3⟩ := h11.2 i a r e1 e2
    exact ⟨dd, s, k.tup u1, k.tup u2, A', u3.grow hr hn k e⟩
end
end L2

namespace L2
open PySem PySem.Spec PyProof.Rows
/-! ### the works as they are made -/
def cfgOf (ds : List Int) (ls : List Cd) (slow fast : Int) (lds : List Ld) (N : Addr → Prop) : Cfg := ⟨ds, ls, slow, fast, lds.map (·.2.2), lds.map (·.1), N⟩
def snap0 (ds : List Int) (ls : List Cd) (lds : List Ld) : Snap := ⟨ds.getD 0 0, ds.map fun _ => false, ls.map fun _ => false, .no, lds.map (·.2.1)⟩
theorem StandX.keepI {C : Cl} {K : PySem.W.Frag} {H H' : Hp} {rl s x D dp : Addr} {g : Cfg} {A : SA} {n : Snap} {us : List (Str × V)} (h : StandX C K H rl g s A n) (k : Keeps x H H') (hx : H x = some (.ins D dp us)) (n1 : s ≠ x) (n2 : A.b ≠ x) (n3 : A.y ≠ x) : StandX C K H' rl g s A n := by
  refine ⟨k _ _ n1 h.ob, k _ _ (fun z => ?_) h.go, h.be.offI k hx n2, h.ya.offI k hx n3, h.ap, h.nn.keepI k hx⟩
  have := h.go
  rw [z, hx] at this
  cases this
theorem cfg_ok {ds : List Int} {ls : List Cd} {slow fast : Int} {lds : List Ld} {N : Addr → Prop} (h1 : Shaft ds) (h2 : ls.length = ds.length) (h3 : ∀ x ∈ ls, GoodCd x) (h4 : 1 ≤ slow ∧ slow ≤ fast ∧ fast ≤ 500) (h5 : lds.length ≤ 30) : CfgOk (cfgOf ds ls slow fast lds N) :=
  ⟨h1, h2, h3, h4.1, h4.2.1, h4.2.2, by simp [cfgOf], by simpa [cfgOf] using h5⟩
theorem snap_ok {ds : List Int} {ls : List Cd} {slow fast : Int} {lds : List Ld} {N : Addr → Prop} (h1 : Shaft ds) (h2 : ls.length = ds.length) (h6 : ∀ x ∈ lds, GoodLd ds.length x) : SnapOk (cfgOf ds ls slow fast lds N) (snap0 ds ls lds) := by
  have l2 := h1.l2
  have l6 := h1.l6
  refine ⟨by simp [cfgOf, snap0], by simp [cfgOf, snap0, h2], by simp [cfgOf, snap0], fun x hx => ?_, fun i j hi hj h10 e => ?_, ⟨0, .inl rfl, 0, ?_⟩, fun l r e => ?_⟩
  · simp only [snap0, List.mem_map] at hx
    obtain ⟨y, hy, rfl⟩ := hx
    exact .inl (h6 y hy).1
  · exfalso
    have hm : (snap0 ds ls lds).ws.getD i 0 ∈ (snap0 ds ls lds).ws := getD_memI hi
    simp only [snap0, List.mem_map] at hm
    obtain ⟨y, hy, e1⟩ := hm
    have := (h6 y hy).1
    simp only [snap0] at h10
    omega
  · exact lvl_some h1 (i := 0) (by omega) rfl
  · rcases e with e | e <;> cases e
theorem CfgOk.plus {g : Cfg} (h : CfgOk g) (p : Addr) : CfgOk (g.plus p) := ⟨h.sh, h.lc, h.gc, h.s1, h.sf, h.f5, h.gk, h.k30⟩
theorem SnapOk.plus {g : Cfg} {n : Snap} (h : SnapOk g n) (p : Addr) : SnapOk (g.plus p) n := ⟨h.gl, h.fl, h.wl, h.wr, h.un, h.st, h.ew⟩
end L2

namespace PySem
open PySem.Spec PyProof.Rows
section
variable {prog : Program} {w : World} {A : Around} {E : Value → Shared → Prop} {s : Shared}
theorem draw_list {it t : Addr} {items : Array Value} (hne : t ≠ it) : ∀ (n i : Nat) (s : Shared) (Q : List Value → Shared → Prop), s.heap.IsListIter it t i → s.heap.IsList t items → i + n ≤ items.size →
    (∀ h', Heap.IsListIter h' it t (i + n) → Heap.SameBut it s.heap h' → Q ((items.toList.drop i).take n) { s with heap := h' }) → wpAny (model prog w) A (draw (.ref it) n) Q E s
  | 0, i, s, Q, hit, _, _, hQ => by
    show wpAny _ _ (pure []) Q E s
    exact wpAny_pure (by simpa using hQ s.heap hit (Heap.SameBut.refl ..))
  | n + 1, i, s, Q, hit, ht, hle, hQ => by
    have hlt : i < items.size := by omega
    show wpAny _ _ (pyNext (.ref it) >>= _) Q E s
    refine wpAny_bind (wpAny_pyNext_list_item hit ht (x := items[i]) (by simp [hlt]) fun h₁ hit₁ hs₁ => ?_)
    refine wpAny_bind (wpAny_holding (draw_list hne n (i + 1) _ _ hit₁ (ht.extBut hs₁.extBut hne) (by omega) fun h₂ hit₂ hs₂ => wpAny_pure ?_))
    have hd : items.toList.drop i = items[i] :: items.toList.drop (i + 1) := by simp [List.drop_eq_getElem_cons, hlt]
    have := hQ h₂ (by rw [show i + (n + 1) = i + 1 + n by omega]; exact hit₂) (hs₁.trans hs₂)
    rw [hd, List.take_succ_cons] at this
    exact this
theorem unpackItems_list {t : Addr} {items : Array Value} {Q : List Value → Shared → Prop} (hh : A.handled = none) (ht : s.heap.IsList t items)
    (hQ : ∀ h', Heap.ExtBut s.heap.objs.size s.heap h' → Q items.toList { s with heap := h' }) : wpAny (model prog w) A (unpackItems (.ref t) items.size none) Q E s := by
  have hlt : t ≠ s.heap.objs.size := by obtain ⟨o, ho, _⟩ := ht; exact Nat.ne_of_lt (Heap.lt_size ho)
  unfold unpackItems
  refine wpAny_bind ?_
  · unfold notIterableAtAll
    refine wpAny_bind (wpAny_specialOf ht.typeIs slot_list_iter.lookup ?_)
    refine wpAny_pure ?_
    simp only [Bool.false_eq_true, if_false]
    refine wpAny_bind (wpAny_holding (wpAny_pyIter_list ht ?_))
    refine wpAny_bind (wpAny_holding (draw_list hlt items.size 0 _ _ ⟨_, Heap.get?_push_size _ rfl, rfl, rfl⟩ (ht.push _) (by omega) fun h₁ hit₁ hs₁ => ?_))
    have hall : List.take items.size (List.drop 0 items.toList) = items.toList := by
      rw [List.drop_zero]; exact List.take_of_length_le (by simp)
    rw [hall]
    rw [if_neg (by simp)]
    have ht₁ : Heap.IsList h₁ t items := (ht.push _).extBut hs₁.extBut hlt
    refine wpAny_bind (wpAny_holding (wpAny_pyNext_list_end hh hit₁ ht₁ (by simp) fun h₂ he₂ => ?_))
    simp only [Option.isSome_none, Bool.false_eq_true, if_false]
    refine wpAny_pure (hQ h₂ fun b o hb e => he₂ b o hb (hs₁.extBut b o hb (Heap.get?_push_of_some _ e)))
theorem unpack_list {t : Addr} {items : Array Value} {targets : List (Bool × (Value → Sem Unit))} {Q : Unit → Shared → Prop} (hh : A.handled = none) (ht : s.heap.IsList t items)
    (hn : targets.length = items.size) (hstar : targets.findIdx? (·.1) = none)
    (h : ∀ h', Heap.ExtBut s.heap.objs.size s.heap h' → wpAny (model prog w) A (assignInOrder (targets.map (·.2)) items.toList) Q E { s with heap := h' }) :
    wpAny (model prog w) A (unpack (.ref t) targets) Q E s := by
  unfold unpack
  rw [hn, hstar]
  exact wpAny_bind (wpAny_holding (unpackItems_list hh ht h))
theorem assign_Tuple_list {env : Env} {elts : List Expr} {x1} {pos : Pos} {t : Addr} {items : Array Value} {Q : Unit → Shared → Prop} (hh : A.handled = none) (ht : s.heap.IsList t items)
    (hn : (assignEach elts env).length = items.size) (hstar : (assignEach elts env).findIdx? (·.1) = none)
    (h : ∀ h', Heap.ExtBut s.heap.objs.size s.heap h' → wpAny (model prog w) A (assignInOrder ((assignEach elts env).map (·.2)) items.toList) Q E { s with heap := h' }) :
    wpAny (model prog w) A (assign (.Tuple elts x1 pos) env (.ref t)) Q E s := by
  rw [assign_Tuple]
  exact wpAny_bind (wpAny_standAt (unpack_list hh ht hn hstar h))
end
end PySem
namespace L2
open PySem PySem.Spec PyProof.Rows PySem.SeqAt
section
variable {X : Cx} {pos : Pos}
/-- (a, b, ..) = a list of that length -/
def gTupL (K : PySem.W.Frag) (n : Nat) (t : TGs) : TG := fun v σ H Q => ∃ a xs, v = .ref a ∧ SqL K H a xs ∧ xs.length = n ∧ t xs σ H Q
theorem pg_lst {es : List Expr} {k : Nat} {t : TGs} {n : Nat} (hc : X.calm = true) (h : PGs X es t)
    (hn : (assignEach es X.env).length = n := by rfl) (hst : (assignEach es X.env).findIdx? (·.1) = none := by rfl) : PG X (.Tuple es k pos) (gTupL X.K n t) := by
  intro pins s σ H v u Q I r hw
  obtain ⟨a, xs, e1, hq, hl, hw⟩ := hw
  subst e1
  cases r
  obtain ⟨its, rv, ht, hz⟩ := I.list hq
  refine assign_Tuple_list (I.ok.hd hc) ht.isList (by simp [hn, ← hl, rv.length]) hst fun h' hx => ?_
  have I1 : Inv X pins σ H { s with heap := h' } := I.kept (t' := s.toks) fun b o e => hx b o (Nat.ne_of_lt (Heap.lt_size e)) e
  exact h pins _ σ H xs _ Q I1 (by simpa using rv) hw
def rNeL (K : PySem.W.Frag) : R2 := fun x y H Q => ∃ a b xs ys, x = .ref a ∧ y = .ref b ∧ SqL K H a xs ∧ SqL K H b ys ∧ xs.all flatV = true ∧ ys.all flatV = true ∧ Q (.bl (!eqL xs ys)) H
theorem op_neL (hu : X.A.units < cLine) : OpR X (compareOp .NotEq) (rNeL X.K) := by
  intro pins s σ H x y u v Q I rx ry h
  obtain ⟨a, b, xs, ys, rfl, rfl, ha, hb, fa, fb, q⟩ := h
  cases rx; cases ry
  obtain ⟨ia, ra, pa, za⟩ := I.list ha
  obtain ⟨ib, rb, pb, zb⟩ := I.list hb
  have la := ra.length
  have lb := rb.length
  by_cases hl : xs.length = ys.length
  · refine RcNeAt.lists (e := fun j => eqV (xs.getD j .non) (ys.getD j .non)) pa.isList pb.isList (by simp only [List.size_toArray]; omega) hu (fun j h1 h2 => ?_) X.prog X.w _ _ ?_
    · simp only [List.size_toArray] at h1 h2
      have hx : xs[j]? = some (xs.getD j .non) := by
        rw [List.getD_eq_getElem?_getD, List.getElem?_eq_getElem (by omega)]; rfl
      have hy : ys[j]? = some (ys.getD j .non) := by
        rw [List.getD_eq_getElem?_getD, List.getElem?_eq_getElem (by omega)]; rfl
      obtain ⟨u, eu, ru⟩ := ra.get hx
      obtain ⟨v, ev, rv⟩ := rb.get hy
      have e1 : ia.toArray[j] = u := by
        have := List.getElem?_eq_some_iff.mp eu
        simpa using this.2
      have e2 : ib.toArray[j] = v := by
        have := List.getElem?_eq_some_iff.mp ev
        simpa using this.2
      rw [e1, e2]
      exact eqAt_V ru rv (List.all_eq_true.mp fa _ (List.mem_of_getElem? hx)) (List.all_eq_true.mp fb _ (List.mem_of_getElem? hy))
    · have e : (List.range ia.toArray.size).all (fun j => eqV (xs.getD j .non) (ys.getD j .non)) = eqL xs ys := by
        rw [List.size_toArray, ← la]
        exact eqL_all hl
      rw [e]
      exact ⟨.bl (!eqL xs ys), H, I, rfl, q⟩
  · refine RcNeAt.lists_lengths pa.isList pb.isList (by simp only [List.size_toArray, bne_iff_ne, ne_eq]; omega) hu X.prog X.w _ _ ?_
    have e : eqL xs ys = false := by
      cases he : eqL xs ys with
      | false => rfl
      | true => exact absurd (eqL_len he) hl
    rw [e] at q
    exact ⟨.bl true, H, I, rfl, q⟩
end
end L2

namespace L2
open PySem PySem.Spec PyProof.Rows
/-! ### a day of deeds that were not refused -/
inductive Run (g : Cfg) (n0 : Snap) : List Row → Prop
  | nil : Run g n0 []
  | snoc {rs : List Row} {d : Dd} (h : Run g n0 rs) (ok : ddOk d) (hr : refD g (lastSn n0 rs) d = none) : Run g n0 (rs ++ [rowOf g n0 rs d])
theorem Run.snap {g : Cfg} {n0 : Snap} {rs : List Row} (hg : CfgOk g) (h0 : SnapOk g n0) (h : Run g n0 rs) : SnapOk g (lastSn n0 rs) := by
  induction h with
  | nil => exact h0
  | snoc h ok hr ih =>
    rw [lastSn_last]
    exact ih.next hg ok hr
theorem Run.deeds {g : Cfg} {n0 : Snap} {rs : List Row} (h : Run g n0 rs) : ∀ r ∈ rs, ∃ d, r.deed = ddV d := by
  induction h with
  | nil => intro r hr; cases hr
  | @snoc rs d h ok hr ih =>
    intro r hr
    rcases List.mem_append.mp hr with hr | hr
    · exact ih r hr
    · rw [List.mem_singleton] at hr
      subst hr
      exact ⟨d, rfl⟩
theorem lastsF_nonneg {w s : Int} (hw : 0 ≤ w) (hs : 1 ≤ s) : 0 ≤ lastsF w s := Int.ediv_nonneg (by omega) (by omega)
theorem absI_nonneg (x : Int) : 0 ≤ absI x := by unfold absI; split <;> omega
theorem ticksD_nonneg {g : Cfg} (hg : CfgOk g) (n : Snap) (d : Dd) : 0 ≤ ticksD g n d := by
  cases d <;> first | (simp only [ticksD]; exact lastsF_nonneg (absI_nonneg _) (hg.speed n).1) | (simp only [ticksD]; decide)
theorem Run.now {g : Cfg} {n0 : Snap} {rs : List Row} (hg : CfgOk g) (h : Run g n0 rs) : 0 ≤ nowF rs := by
  induction h with
  | nil => exact Int.le_refl 0
  | @snoc rs d h ok hr ih =>
    rw [nowF_last]
    have := ticksD_nonneg hg (lastSn n0 rs) d
    show 0 ≤ nowF rs + _
    omega
/-! ### what the book tells, as a value -/
def ToldRow (K : PySem.W.Frag) (H : Hp) (a : Addr) (r : Row) : Prop := ∃ dd, SqT K H a [.int r.began, .int r.ended, .ref dd] ∧ SqT K H dd r.deed
def ToldAt (K : PySem.W.Frag) (H : Hp) (as : List Addr) (rs : List Row) : Prop := as.length = rs.length ∧ ∀ (i : Nat) a r, as[i]? = some a → rs[i]? = some r → ToldRow K H a r
theorem ToldAt.same {K : PySem.W.Frag} {H H' : Hp} {as : List Addr} {rs : List Row} (h : ToldAt K H as rs) (e : Same H H') : ToldAt K H' as rs := ⟨h.1, fun i a r e1 e2 => by
  obtain ⟨dd, h1, h2⟩ := h.2 i a r e1 e2
  exact ⟨dd, e.tup h1, e.tup h2⟩⟩
theorem ToldAt.keep {K : PySem.W.Frag} {H H' : Hp} {p : Addr} {ys : List V} {as : List Addr} {rs : List Row} (h : ToldAt K H as rs) (e : Keeps p H H') (hp : H p = some (.lst ys)) : ToldAt K H' as rs := ⟨h.1, fun i a r e1 e2 => by
  obtain ⟨dd, h1, h2⟩ := h.2 i a r e1 e2
  exact ⟨dd, h1.keep e hp, h2.keep e hp⟩⟩
theorem ToldAt.nil {K : PySem.W.Frag} {H : Hp} : ToldAt K H [] [] := ⟨rfl, fun i a r e _ => by simp at e⟩
theorem ToldAt.push {K : PySem.W.Frag} {H : Hp} {as : List Addr} {rs : List Row} {a : Addr} {r : Row} (h : ToldAt K H as rs) (hr : ToldRow K H a r) : ToldAt K H (as ++ [a]) (rs ++ [r]) := by
  refine ⟨by rw [List.length_append, List.length_append, h.1]; rfl, fun i b x e1 e2 => ?_⟩
  by_cases hi : i < as.length
  · rw [List.getElem?_append_left hi] at e1
    rw [List.getElem?_append_left (by rw [← h.1]; exact hi)] at e2
    exact h.2 i b x e1 e2
  · rw [List.getElem?_append_right (by omega)] at e1
    rw [List.getElem?_append_right (by rw [← h.1]; omega), ← h.1] at e2
    have hz : i - as.length = 0 := by
      have := (List.getElem?_eq_some_iff.mp e1).1
      simp at this
      omega
    rw [hz] at e1 e2
    cases e1
    cases e2
    exact hr
theorem ToldAt.last {K : PySem.W.Frag} {H : Hp} {as : List Addr} {rs : List Row} {r : Row} (h : ToldAt K H as (rs ++ [r])) : ∃ as' a, as = as' ++ [a] ∧ ToldAt K H as' rs ∧ ToldRow K H a r := by
  have hl := h.1
  rw [List.length_append, List.length_singleton] at hl
  rcases nil_or_snoc as with rfl | ⟨as', a, rfl⟩
  · cases hl
  · have hl' : as'.length = rs.length := by rw [List.length_append, List.length_singleton] at hl; omega
    refine ⟨as', a, rfl, ⟨hl', fun i b x e1 e2 => ?_⟩, ?_⟩
    · have hi := (List.getElem?_eq_some_iff.mp e1).1
      exact h.2 i b x (by rw [List.getElem?_append_left hi]; exact e1) (by rw [List.getElem?_append_left (by omega)]; exact e2)
    · refine h.2 as'.length a r ?_ ?_
      · rw [List.getElem?_append_right (Nat.le_refl _)]; simp
      · rw [List.getElem?_append_right (by omega), hl']; simp
def toldR (r : Row) : Dt := .tup [.flat (.int r.began), .flat (.int r.ended), .tup (r.deed.map Dt.flat)]
def toldD (rs : List Row) : Dt := .lst (rs.map toldR)
theorem rep_toldR {K : PySem.W.Frag} {H : Hp} {a : Addr} {r : Row} {n : Nat} (h : ToldRow K H a r) (hd : ∃ d, r.deed = ddV d) : Rep K H (n + 2) (.ref a) (toldR r) := by
  obtain ⟨dd, h1, h2⟩ := h
  obtain ⟨d, hd⟩ := hd
  refine .tup h1 (by show 3 ≤ 100000; decide) rfl fun i x y e1 e2 => ?_
  match i, e1, e2 with
  | 0, e1, e2 => cases e1; cases e2; exact .flat rfl
  | 1, e1, e2 => cases e1; cases e2; exact .flat rfl
  | 2, e1, e2 =>
    cases e1; cases e2
    have := ddV_len d
    exact rep_flatT h2 (by rw [hd]; omega) (by rw [hd]; exact ddV_flat d)
  | i + 3, e1, e2 => simp at e1
theorem rep_told {K : PySem.W.Frag} {H : Hp} {p : Addr} {as : List Addr} {rs : List Row} {n : Nat} (hp : SqL K H p (as.map V.ref)) (h : ToldAt K H as rs) (hd : ∀ r ∈ rs, ∃ d, r.deed = ddV d) (hl : rs.length ≤ 100000) : Rep K H (n + 3) (.ref p) (toldD rs) := by
  refine .lst hp (by rw [List.length_map, h.1]; exact hl) (by rw [List.length_map, List.length_map, h.1]) fun i x y e1 e2 => ?_
  rw [List.getElem?_map] at e1 e2
  cases ea : as[i]? with
  | none => rw [ea] at e1; cases e1
  | some a =>
    cases er : rs[i]? with
    | none => rw [er] at e2; cases e2
    | some r =>
      rw [ea] at e1; rw [er] at e2
      cases e1; cases e2
      exact rep_toldR (h.2 i a r ea er) (hd r (List.mem_of_getElem? er))
theorem rep_bools {K : PySem.W.Frag} {H : Hp} {a : Addr} {bs : List Bool} {n : Nat} (h : SqL K H a (bs.map V.bl)) (hb : bs.length ≤ 100000) : Rep K H (n + 1) (.ref a) (.lst ((bs.map V.bl).map Dt.flat)) := by
  refine .lst h (by rw [List.length_map]; exact hb) (by simp) fun i x y e1 e2 => ?_
  rw [List.getElem?_map, e1] at e2
  cases e2
  rw [List.getElem?_map] at e1
  cases eb : bs[i]? with
  | none => rw [eb] at e1; cases e1
  | some b => rw [eb] at e1; cases e1; exact .flat rfl
theorem WAt.len {C : Cl} {K : PySem.W.Frag} {H : Hp} {w bk rl : Addr} {g : Cfg} {n0 : Snap} {rs : List Row} (h : WAt C K H w bk rl g n0 rs) (p : Addr) (hp : g.N p) : ∃ ys, H p = some (.lst ys) := by
  obtain ⟨dx, f, _, A, hA⟩ := h.bo.ob
  exact hA.nn.al p hp
theorem WAt.off {C : Cl} {K : PySem.W.Frag} {H : Hp} {w bk rl : Addr} {g : Cfg} {n0 : Snap} {rs : List Row} (h : WAt C K H w bk rl g n0 rs) (p : Addr) (hp : g.N p) : rl ≠ p := by
  obtain ⟨dx, f, _, A, hA⟩ := h.bo.ob
  exact hA.nn.nr p hp
end L2

namespace L2
open PySem PySem.Spec PyProof.Rows
section
variable {X : Cx}
/-- o.m(e, ..) in a try -/
def tMethT (C : Addr) (m : Str) (sp : Sp) (dvs : List V) (E' : XT) (ta : TE) (t : TA) : TE := fun σ H Q => tMeth C m sp dvs (fun cls _ H' => E' cls σ H') ta t σ H Q
theorem run_fnT {pins pins' : List (Addr × Obj)} {E' : XT} {k : Nat} {f : Addr} {fd : FuncData} {ps : List Str} {sp : Sp} {dvs vs : List V} {ds us : List Value} {σ : St} {H1 : Hp} {s1 : Shared} {Q : VK}
    (F : FnOk X.prog X.w X.K X.mg X.base (CXf X.prog X.w) k f fd ps sp) (hr : Room k X.A) (hb : Binds X.K fd ps ds) (hd : Vals dvs ds) (I1 : Inv (Xt X pins E') pins' σ H1 s1) (r : Vals vs us)
    (q : sp (vs ++ dvs) H1 Q fun cls _ H' => E' cls σ H') : wpAny (model X.prog X.w) X.A (call (.ref f) us) (fun v s' => ∃ x H', Inv (Xt X pins E') pins' σ H' s' ∧ RelV x v ∧ Q x H') (Xt X pins E').xe s1 := by
  have r2 : Vals (vs ++ dvs) (us ++ ds) := r.append hd
  have hl : (us ++ ds).length = ps.length := by rw [← r2.length]; exact F.len _ _ _ _ q
  refine wpAny_call (codeAny_mono (F.run X.A X.stack s1 H1 ⟨us, []⟩ (us ++ ds) (vs ++ dvs) Q _ hr I1.env0 (hb s1 us I1.kIn hl) r2 q) fun r s' hq => ?_)
  cases r with
  | error e => exact ⟨σ, H1, s1, I1.ofT, hq⟩
  | ok fl =>
    cases fl with
    | ret u => exact I1.after hq
    | next => exact False.elim hq
    | brk => exact False.elim hq
    | cont => exact False.elim hq
theorem pe_methT {pins : List (Addr × Obj)} {E' : XT} {k : Nat} {f C : Addr} {fd : FuncData} {ps : List Str} {sp : Sp} {dvs : List V} {ds : List Value} {m : Str} {pos apos : Pos} {e o : Expr} {es : List Expr} {ta : TE} {t : TA} {pl : Sem Bool}
    (he : PE (Xt X pins E') o ta) (c : Cls X.K C) (hm : Meth X.K C m f) (F : FnOk X.prog X.w X.K X.mg X.base (CXf X.prog X.w) k f fd ps sp) (hr : Room k X.A) (hb : Binds X.K fd ps ds) (hd : Vals dvs ds) (ha : PA (Xt X pins E') (e :: es) t)
    (hst : starEach (e :: es) X.env = (false, eval e X.env) :: starEach es X.env := by rfl) (hpl : (backTo pos (starEach es X.env)).any (·.1) = false := by rfl)
    (ht : eval (.Call (.Attribute o m apos) (e :: es) [] pos) X.env = (do
      let ov ← eval o X.env
      standAt apos.atName
      let (f, first) ← holding [ov] (getMethod ov m pl)
      callWith pos f first (backTo pos (starEach (e :: es) X.env)) (backToKw pos (keywordEach [] X.env))) := by rfl) :
    PE (Xt X pins E') (.Call (.Attribute o m apos) (e :: es) [] pos) (tMethT C m sp dvs E' ta t) := by
  intro pins' s σ H Q I h
  refine PySem.W.methodCall_KW (pl := pl) (thn (he pins' s σ H _ I h) fun u s1 ⟨x, H1, I1, rx, a, dx, fs, ex, ea, l, q⟩ => ?_) ht
  subst ex
  obtain rfl : u = Value.ref a := rx
  refine getmeth_ok I1 ea c hm l ?_
  refine PySem.W.callWith_K (first := [.ref a]) (h₀ := X.base) I.ok.mod.kin hm.kp (thn (ha pos pins' s1 σ H1 _ I1 q) fun us s2 ⟨vs, H2, I2, r, q2⟩ => ⟨I2.kIn, ?_⟩) hst hpl
  exact run_fnT (us := .ref a :: us) (vs := .ref a :: vs) F hr hb hd I2 (.cons rfl r) q2
end
end L2

namespace PySem
open Sem (wp)
open Builtin PySem.Spec PyProof.Rows PySem.SeqAt
section
variable {prog : Program} {w : World} {A : Around} {E : Value → Shared → Prop} {s : Shared}
end
end PySem
namespace L2
open PySem PySem.Spec PyProof.Rows PySem.SeqAt
section
variable {X : Cx}
/-- (x,) * n -/
def rRepT (K : PySem.W.Frag) : R2 := fun x y H Q => ∃ l k v, x = .ref l ∧ y = .int k ∧ SqT K H l [v] ∧ 2 ≤ k ∧ k ≤ 100 ∧ ∀ p, H p = none → Q (.ref p) (upd H p (.tup (List.replicate k.toNat v)))
/-- t.index(k), of ints, of a tuple of the heap -/
def rIndexI : V → List V → Hp → VK → Prop := fun x vs H Q => ∃ (l : Addr) (ns : List Int) (k : Int), x = .ref l ∧ vs = [.int k] ∧ H l = some (.tup (ns.map V.int)) ∧ k ∈ ns ∧ Q (.int (ns.idxOf k : Nat)) H
def tBMT (r : V → List V → Hp → VK → Prop) (to : TE) (t : TA) : TE := fun σ H Q => to σ H fun x H1 => (∃ a xs, x = .ref a ∧ H1 a = some (.tup xs)) ∧ t σ H1 fun xs H2 => r x xs H2 Q
end
section
variable {X : Cx}
/-- sorted of a tuple of ints -/
def rSortT (K : PySem.W.Frag) : List V → Hp → VK → Prop := fun xs H Q => ∃ (a : Addr) (ns : List Int), xs = [.ref a] ∧ SqT K H a (ns.map V.int) ∧ ns.length < 64 ∧ ∀ (l : Addr) (ms : List Int), H l = none → ms.Perm ns → ms.Pairwise (· ≤ ·) → Q (.ref l) (upd H l (.lst (ms.map V.int)))
end
end L2

namespace L2
open PySem PySem.Spec PyProof.Rows
/-! ### lists of tuples, one for each of a list -/
def AtAll {α : Type} (P : Addr → α → Prop) (as : List Addr) (xs : List α) : Prop := as.length = xs.length ∧ ∀ (i : Nat) a x, as[i]? = some a → xs[i]? = some x → P a x
section
variable {α : Type} {P Q : Addr → α → Prop} {as : List Addr} {xs : List α} {a : Addr} {x : α}
theorem AtAll.imp (h : AtAll P as xs) (f : ∀ a x, P a x → Q a x) : AtAll Q as xs := ⟨h.1, fun i a x e1 e2 => f _ _ (h.2 i a x e1 e2)⟩
theorem AtAll.nil : AtAll P [] [] := ⟨rfl, fun i a r e _ => by simp at e⟩
theorem AtAll.push (h : AtAll P as xs) (hr : P a x) : AtAll P (as ++ [a]) (xs ++ [x]) := by
  refine ⟨by rw [List.length_append, List.length_append, h.1]; rfl, fun i b y e1 e2 => ?_⟩
  by_cases hi : i < as.length
  · rw [List.getElem?_append_left hi] at e1
    rw [List.getElem?_append_left (by rw [← h.1]; exact hi)] at e2
    exact h.2 i b y e1 e2
  · rw [List.getElem?_append_right (by omega)] at e1
    rw [List.getElem?_append_right (by rw [← h.1]; omega), ← h.1] at e2
    have hz : i - as.length = 0 := by
      have := (List.getElem?_eq_some_iff.mp e1).1
      simp at this
      omega
    rw [hz] at e1 e2
    cases e1
    cases e2
    exact hr
theorem AtAll.last (h : AtAll P as (xs ++ [x])) : ∃ as' a, as = as' ++ [a] ∧ AtAll P as' xs ∧ P a x := by
  have hl := h.1
  rw [List.length_append, List.length_singleton] at hl
  rcases nil_or_snoc as with rfl | ⟨as', a, rfl⟩
  · cases hl
  · have hl' : as'.length = xs.length := by rw [List.length_append, List.length_singleton] at hl; omega
    refine ⟨as', a, rfl, ⟨hl', fun i b y e1 e2 => ?_⟩, ?_⟩
    · have hi := (List.getElem?_eq_some_iff.mp e1).1
      exact h.2 i b y (by rw [List.getElem?_append_left hi]; exact e1) (by rw [List.getElem?_append_left (by omega)]; exact e2)
    · refine h.2 as'.length a x ?_ ?_
      · rw [List.getElem?_append_right (Nat.le_refl _)]; simp
      · rw [List.getElem?_append_right (by omega), hl']; simp
theorem AtAll.get (h : AtAll P as xs) {i : Nat} {x : α} (e : xs[i]? = some x) : ∃ a, as[i]? = some a ∧ P a x := by
  have hi := (List.getElem?_eq_some_iff.mp e).1
  have hi2 : i < as.length := by rw [h.1]; exact hi
  have ha : as[i]? = some as[i] := List.getElem?_eq_getElem hi2
  exact ⟨_, ha, h.2 i _ _ ha e⟩
end
/-! ### a law's own state -/
def StAt (K : PySem.W.Frag) (H : Hp) (a : Addr) (x : Snap × Int) : Prop := ∃ gt lt ht dt : Addr, SqT K H a [.int x.1.place, .ref gt, .ref lt, .ref ht, .ref dt, .int x.2] ∧ SqT K H gt (x.1.gates.map V.bl) ∧ H lt = some (.tup (x.1.ws.map V.int)) ∧ SqT K H ht (engV x.1.e) ∧ SqT K H dt ((deadL x.1.fs).map V.int)
theorem StAt.same {K : PySem.W.Frag} {H H' : Hp} {a : Addr} {x : Snap × Int} (h : StAt K H a x) (s : Same H H') : StAt K H' a x := by
  obtain ⟨gt, lt, ht, dt, h1, h2, h3, h4, h5⟩ := h
  exact ⟨gt, lt, ht, dt, s.tup h1, s.tup h2, s _ _ h3, s.tup h4, s.tup h5⟩
theorem StAt.keep {K : PySem.W.Frag} {H H' : Hp} {a p : Addr} {ys : List V} {x : Snap × Int} (h : StAt K H a x) (s : Keeps p H H') (hp : H p = some (.lst ys)) : StAt K H' a x := by
  obtain ⟨gt, lt, ht, dt, h1, h2, h3, h4, h5⟩ := h
  exact ⟨gt, lt, ht, dt, h1.keep s hp, h2.keep s hp, s _ _ (fun z => by rw [z, hp] at h3; cases h3) h3, h4.keep s hp, h5.keep s hp⟩
def stsOf (n0 : Snap) (rs : List Row) : List (Snap × Int) := (n0, 0) :: rs.map fun r => (r.sn, r.ended)
/-- what the works of a law are made of -/
structure SetupAt (K : PySem.W.Frag) (H : Hp) (p dl cl ll : Addr) (g : Cfg) (lds : List Ld) : Prop where
  ob : H p = some (.lst [.ref dl, .ref cl, .int g.slow, .int g.fast, .ref ll])
  od : H dl = some (.lst (g.ds.map V.int))
  oc : ∃ as : List Addr, H cl = some (.lst (as.map V.ref)) ∧ TupsF cdV K H as g.ls
  ol : ∃ as : List Addr, H ll = some (.lst (as.map V.ref)) ∧ Tups K H as lds
  ek : g.ks = lds.map (·.1)
theorem SetupAt.same {K : PySem.W.Frag} {H H' : Hp} {p dl cl ll : Addr} {g : Cfg} {lds : List Ld} (h : SetupAt K H p dl cl ll g lds) (s : Same H H') : SetupAt K H' p dl cl ll g lds := by
  obtain ⟨h1, h2, ⟨as, h3, h4⟩, ⟨bs, h5, h6⟩, h7⟩ := h
  exact ⟨s _ _ h1, s _ _ h2, ⟨as, s _ _ h3, h4.same s⟩, ⟨bs, s _ _ h5, h6.same s⟩, h7⟩
theorem SetupAt.plus {K : PySem.W.Frag} {H : Hp} {p dl cl ll : Addr} {g : Cfg} {lds : List Ld} (h : SetupAt K H p dl cl ll g lds) (q : Addr) : SetupAt K H p dl cl ll (g.plus q) lds := ⟨h.ob, h.od, h.oc, h.ol, h.ek⟩
def Keeps3 (a b c : Addr) (H H' : Hp) : Prop := ∀ d o, d ≠ a → d ≠ b → d ≠ c → H d = some o → H' d = some o
theorem Keeps3.of {a b c : Addr} {H H' : Hp} (s : Same H H') : Keeps3 a b c H H' := fun d o _ _ _ e => s d o e
theorem Keeps3.a {a b c : Addr} {H H' : Hp} (s : Keeps a H H') : Keeps3 a b c H H' := fun d o n _ _ e => s d o n e
theorem Keeps3.b {a b c : Addr} {H H' : Hp} (s : Keeps b H H') : Keeps3 a b c H H' := fun d o _ n _ e => s d o n e
theorem Keeps3.c {a b c : Addr} {H H' : Hp} (s : Keeps c H H') : Keeps3 a b c H H' := fun d o _ _ n e => s d o n e
theorem Keeps3.trans {a b c : Addr} {H H1 H2 : Hp} (s : Keeps3 a b c H H1) (t : Keeps3 a b c H1 H2) : Keeps3 a b c H H2 := fun d o n m k e => t d o n m k (s d o n m k e)
structure DayAt (C : Cl) (K : PySem.W.Frag) (H : Hp) (w bk rl sl wl : Addr) (g : Cfg) (n0 : Snap) (rs : List Row) : Prop where
  wk : WAt C K H w bk rl g n0 rs
  st : ∃ as : List Addr, H sl = some (.lst (as.map V.ref)) ∧ AtAll (StAt K H) as (stsOf n0 rs)
  ro : ∃ as : List Addr, H wl = some (.lst (as.map V.ref)) ∧ ToldAt K H as rs
  ns : g.N sl
  nw : g.N wl
  ne : sl ≠ wl
  run : Run g n0 rs
theorem DayAt.same {C : Cl} {K : PySem.W.Frag} {H H' : Hp} {w bk rl sl wl : Addr} {g : Cfg} {n0 : Snap} {rs : List Row} (h : DayAt C K H w bk rl sl wl g n0 rs) (s : Same H H') : DayAt C K H' w bk rl sl wl g n0 rs := by
  obtain ⟨h1, ⟨as, h2, h3⟩, ⟨bs, h4, h5⟩, h6, h7, h8, h9⟩ := h
  exact ⟨h1.same s, ⟨as, s _ _ h2, h3.imp fun a x q => q.same s⟩, ⟨bs, s _ _ h4, h5.same s⟩, h6, h7, h8, h9⟩
end L2

namespace L2
open PySem PySem.Spec PyProof.Rows PySem.SeqAt
section
variable {X : Cx}
/-- t + u, of tuples of the heap -/
def rCatH : R2 := fun x y H Q => ∃ a b xs ys, x = .ref a ∧ y = .ref b ∧ H a = some (.tup xs) ∧ H b = some (.tup ys) ∧ xs.length + ys.length ≤ 1000 ∧ ∀ p H', Same H H' → H' p = some (.tup (xs ++ ys)) → Q (.ref p) H'
end
end L2

namespace K24
open PySem L2
local macro_rules | `(tactic| walk_at "rd") => `(tactic| (try simp only [tSeq, tIfS, tTest, tB, tOp, tUn, tVar, tCB, tCons, tNil, tCall, rI0, rI, rU, rEq, rNe, tRet, tRetN, tC, tNext, tDrop, tAsg, gName, gTup, gTupL, gCons, gNil, rIxL, rIxT, tAnd, tOr, tNot, tAndV, tOrV, tNotV, tIf, tLst, tTup, tBM, tBMT, rAppend, tSl, tNoPart, tPart, rSlL, rSlT, rCat, iRng1, iRng2, iList, iTup, tFor_eq, tComp_eq, rIn, tYes, tRaise, tTry, tCallT, rEqL, rNeL, rRep, rRepT, rCatH, rIndexI, rSortT, tRev, tSortSet, tFld, sFld, tMeth, tMethT, tMake, iEnum, iZip, rExtend, rPop, rInR, rCatA, rIndex, rIndexT, rNeT, tBM0, rClear, gSub, rSetL, σof_cons_none, σof_cons_some, σof_nil, scal_ii, scal_bb, scal_ss, CDiv, CMul, CPow, start_eq, cxOf_K, List.length_cons, List.length_nil, List.map_cons, List.map_nil, List.cons_append, List.nil_append, List.append_nil, List.getElem?_cons_zero, List.getElem?_cons_succ, List.set_cons_zero, List.set_cons_succ, List.replicate_succ, List.replicate_zero, Nat.reduceAdd, Nat.reduceSub, Int.reducePow, Int.reduceToNat, Nat.reducePow, Int.reduceNeg, Int.reduceLT, Int.reduceLE, and_self, or_true, true_or, Option.some.injEq, Option.getD_some, exists_eq_left, exists_eq_left', exists_eq_right, V.ref.injEq, V.int.injEq, V.bl.injEq, V.str.injEq, V.ty.injEq, List.cons.injEq, and_true, true_and, exists_and_left, decide_eq_true_eq, Bool.not_eq_true', Bool.not_true, Bool.not_false, decide_eq_false_iff_not, reduceCtorEq, false_and, and_false, exists_false, Nat.reduceLeDiff, ↓reduceIte, and_assoc, not_true_eq_false, not_false_eq_true]))
def top (i : Nat) : Stmt := PySem.Challenge.pw_cagebells_k24_gates_turned.main.body.getD i (.Pass ⟨0, 0, 0, 0⟩)
abbrev s_is_known : Stmt := top 15
theorem sc_is_known : FnScope ["number", "many"] ["number", "many"] (defScope s_is_known) := ⟨rfl, rfl, rfl, by decide +kernel, rfl, by decide +kernel, by decide +kernel⟩
abbrev s_check_level : Stmt := top 16
theorem sc_check_level : FnScope ["level", "many"] ["level", "many"] (defScope s_check_level) := ⟨rfl, rfl, rfl, by decide +kernel, rfl, by decide +kernel, by decide +kernel⟩
abbrev s_check_load : Stmt := top 17
theorem sc_check_load : FnScope ["number", "many"] ["number", "many"] (defScope s_check_load) := ⟨rfl, rfl, rfl, by decide +kernel, rfl, by decide +kernel, by decide +kernel⟩
abbrev s_check_loads : Stmt := top 21
theorem sc_check_loads : FnScope ["loads", "many", "kind", "level", "goal"] ["loads", "many"] (defScope s_check_loads) := ⟨rfl, rfl, rfl, by decide +kernel, rfl, by decide +kernel, by decide +kernel⟩
abbrev s_Yard_init : Stmt := inClass (top 22) 0
theorem sc_Yard_init : FnScope ["self", "loads", "many"] ["self", "loads", "many"] (defScope s_Yard_init) := ⟨rfl, rfl, rfl, by decide +kernel, rfl, by decide +kernel, by decide +kernel⟩
abbrev s_Yard_men_aboard : Stmt := inClass (top 22) 6
theorem sc_Yard_men_aboard : FnScope ["self", "kind", "spot"] ["self"] (defScope s_Yard_men_aboard) := ⟨rfl, rfl, rfl, by decide +kernel, rfl, by decide +kernel, by decide +kernel⟩
abbrev s_Yard_twin : Stmt := inClass (top 22) 7
theorem sc_Yard_twin : FnScope ["self", "other"] ["self"] (defScope s_Yard_twin) := ⟨rfl, rfl, rfl, by decide +kernel, rfl, by decide +kernel, by decide +kernel⟩
abbrev s_are_strokes : Stmt := top 26
theorem sc_are_strokes : FnScope ["number"] ["number"] (defScope s_are_strokes) := ⟨rfl, rfl, rfl, by decide +kernel, rfl, by decide +kernel, by decide +kernel⟩
abbrev s_check_codes : Stmt := top 27
theorem sc_check_codes : FnScope ["codes", "many", "men", "coal"] ["codes", "many"] (defScope s_check_codes) := ⟨rfl, rfl, rfl, by decide +kernel, rfl, by decide +kernel, by decide +kernel⟩
abbrev s_Bells_init : Stmt := inClass (top 28) 0
theorem sc_Bells_init : FnScope ["self", "codes"] ["self", "codes"] (defScope s_Bells_init) := ⟨rfl, rfl, rfl, by decide +kernel, rfl, by decide +kernel, by decide +kernel⟩
abbrev s_Bells_twin : Stmt := inClass (top 28) 7
theorem sc_Bells_twin : FnScope ["self", "other"] ["self"] (defScope s_Bells_twin) := ⟨rfl, rfl, rfl, by decide +kernel, rfl, by decide +kernel, by decide +kernel⟩
abbrev s_check_depths : Stmt := top 33
theorem sc_check_depths : FnScope ["depths", "depth", "level"] ["depths"] (defScope s_check_depths) := ⟨rfl, rfl, rfl, by decide +kernel, rfl, by decide +kernel, by decide +kernel⟩
abbrev s_drum_whole : Stmt := top 34
theorem sc_drum_whole : FnScope ["depths"] ["depths"] (defScope s_drum_whole) := ⟨rfl, rfl, rfl, by decide +kernel, rfl, by decide +kernel, by decide +kernel⟩
abbrev s_other_place : Stmt := top 35
theorem sc_other_place : FnScope ["depths", "place"] ["depths", "place"] (defScope s_other_place) := ⟨rfl, rfl, rfl, by decide +kernel, rfl, by decide +kernel, by decide +kernel⟩
abbrev s_level_at : Stmt := top 36
theorem sc_level_at : FnScope ["depths", "depth", "level"] ["depths", "depth"] (defScope s_level_at) := ⟨rfl, rfl, rfl, by decide +kernel, rfl, by decide +kernel, by decide +kernel⟩
abbrev s_check_speeds : Stmt := top 39
theorem sc_check_speeds : FnScope ["slow", "fast"] ["slow", "fast"] (defScope s_check_speeds) := ⟨rfl, rfl, rfl, by decide +kernel, rfl, by decide +kernel, by decide +kernel⟩
abbrev s_Standing_init : Stmt := inClass (top 41) 0
theorem sc_Standing_init : FnScope ["self", "place", "opened", "bells", "yard"] ["self", "place", "opened", "bells", "yard"] (defScope s_Standing_init) := ⟨rfl, rfl, rfl, by decide +kernel, rfl, by decide +kernel, by decide +kernel⟩
abbrev s_Standing_twin : Stmt := inClass (top 41) 1
theorem sc_Standing_twin : FnScope ["self"] ["self"] (defScope s_Standing_twin) := ⟨rfl, rfl, rfl, by decide +kernel, rfl, by decide +kernel, by decide +kernel⟩
abbrev s_Book_init : Stmt := inClass (top 42) 0
theorem sc_Book_init : FnScope ["self", "first", "most"] ["self", "first", "most"] (defScope s_Book_init) := ⟨rfl, rfl, rfl, by decide +kernel, rfl, by decide +kernel, by decide +kernel⟩
abbrev s_Book_write : Stmt := inClass (top 42) 1
theorem sc_Book_write : FnScope ["self", "deed", "ticks", "speed", "standing", "began"] ["self", "deed", "ticks", "speed", "standing"] (defScope s_Book_write) := ⟨rfl, rfl, rfl, by decide +kernel, rfl, by decide +kernel, by decide +kernel⟩
abbrev s_Book_now : Stmt := inClass (top 42) 3
theorem sc_Book_now : FnScope ["self"] ["self"] (defScope s_Book_now) := ⟨rfl, rfl, rfl, by decide +kernel, rfl, by decide +kernel, by decide +kernel⟩
abbrev s_Book_latest : Stmt := inClass (top 42) 4
theorem sc_Book_latest : FnScope ["self"] ["self"] (defScope s_Book_latest) := ⟨rfl, rfl, rfl, by decide +kernel, rfl, by decide +kernel, by decide +kernel⟩
abbrev s_Book_told : Stmt := inClass (top 42) 5
theorem sc_Book_told : FnScope ["self"] ["self"] (defScope s_Book_told) := ⟨rfl, rfl, rfl, by decide +kernel, rfl, by decide +kernel, by decide +kernel⟩
abbrev s_Works_init : Stmt := inClass (top 45) 0
theorem sc_Works_init : FnScope ["self", "depths", "codes", "slow", "fast", "loads", "shut", "first"] ["self", "depths", "codes", "slow", "fast", "loads"] (defScope s_Works_init) := ⟨rfl, rfl, rfl, by decide +kernel, rfl, by decide +kernel, by decide +kernel⟩
abbrev s_Works_open_gate : Stmt := inClass (top 45) 4
theorem sc_Works_open_gate : FnScope ["self", "level"] ["self", "level"] (defScope s_Works_open_gate) := ⟨rfl, rfl, rfl, by decide +kernel, rfl, by decide +kernel, by decide +kernel⟩
abbrev s_Works_shut_gate : Stmt := inClass (top 45) 5
theorem sc_Works_shut_gate : FnScope ["self", "level"] ["self", "level"] (defScope s_Works_shut_gate) := ⟨rfl, rfl, rfl, by decide +kernel, rfl, by decide +kernel, by decide +kernel⟩
abbrev s_Works_turn_gate : Stmt := inClass (top 45) 6
theorem sc_Works_turn_gate : FnScope ["self", "word", "level", "wanted", "standing"] ["self", "word", "level", "wanted"] (defScope s_Works_turn_gate) := ⟨rfl, rfl, rfl, by decide +kernel, rfl, by decide +kernel, by decide +kernel⟩
abbrev s_Works_write : Stmt := inClass (top 45) 11
theorem sc_Works_write : FnScope ["self", "deed", "ticks", "standing"] ["self", "deed", "ticks", "standing"] (defScope s_Works_write) := ⟨rfl, rfl, rfl, by decide +kernel, rfl, by decide +kernel, by decide +kernel⟩
abbrev s_Works_speed_with : Stmt := inClass (top 45) 12
theorem sc_Works_speed_with : FnScope ["self", "standing"] ["self", "standing"] (defScope s_Works_speed_with) := ⟨rfl, rfl, rfl, by decide +kernel, rfl, by decide +kernel, by decide +kernel⟩
abbrev s_Works_now : Stmt := inClass (top 45) 15
theorem sc_Works_now : FnScope ["self"] ["self"] (defScope s_Works_now) := ⟨rfl, rfl, rfl, by decide +kernel, rfl, by decide +kernel, by decide +kernel⟩
abbrev s_Works_book : Stmt := inClass (top 45) 16
theorem sc_Works_book : FnScope ["self"] ["self"] (defScope s_Works_book) := ⟨rfl, rfl, rfl, by decide +kernel, rfl, by decide +kernel, by decide +kernel⟩
abbrev s_Works_gates : Stmt := inClass (top 45) 20
theorem sc_Works_gates : FnScope ["self"] ["self"] (defScope s_Works_gates) := ⟨rfl, rfl, rfl, by decide +kernel, rfl, by decide +kernel, by decide +kernel⟩
abbrev s_l_at : Stmt := top 47
theorem sc_l_at : FnScope ["_law_script", "_law_k"] ["_law_script", "_law_k"] (defScope s_l_at) := ⟨rfl, rfl, rfl, by decide +kernel, rfl, by decide +kernel, by decide +kernel⟩
abbrev s_l_draw : Stmt := top 48
theorem sc_l_draw : FnScope ["_law_cell", "_law_k", "_law_span", "_law_rest", "_law_turn", "_law_one"] ["_law_cell", "_law_k", "_law_span"] (defScope s_l_draw) := ⟨rfl, rfl, rfl, by decide +kernel, rfl, by decide +kernel, by decide +kernel⟩
abbrev s_l_mixed : Stmt := top 49
theorem sc_l_mixed : FnScope ["_law_script", "_law_k", "_law_cell", "_law_one"] ["_law_script", "_law_k"] (defScope s_l_mixed) := ⟨rfl, rfl, rfl, by decide +kernel, rfl, by decide +kernel, by decide +kernel⟩
abbrev s_l_same : Stmt := top 50
theorem sc_l_same : FnScope ["_law_found", "_law_due", "_law_alike", "_law_k"] ["_law_found", "_law_due"] (defScope s_l_same) := ⟨rfl, rfl, rfl, by decide +kernel, rfl, by decide +kernel, by decide +kernel⟩
abbrev s_l_depths : Stmt := top 51
theorem sc_l_depths : FnScope ["_law_cell", "_law_many", "_law_shape", "_law_gap", "_law_made", "_law_last", "_law_k", "_law_span"] ["_law_cell"] (defScope s_l_depths) := ⟨rfl, rfl, rfl, by decide +kernel, rfl, by decide +kernel, by decide +kernel⟩
abbrev s_l_codes : Stmt := top 52
theorem sc_l_codes : FnScope ["_law_cell", "_law_many", "_law_made", "_law_k", "_law_men"] ["_law_cell", "_law_many"] (defScope s_l_codes) := ⟨rfl, rfl, rfl, by decide +kernel, rfl, by decide +kernel, by decide +kernel⟩
abbrev s_l_shaft : Stmt := top 53
theorem sc_l_shaft : FnScope ["_law_script", "_law_depths_here", "_law_codes_here", "_law_cell", "_law_slow", "_law_fast"] ["_law_script"] (defScope s_l_shaft) := ⟨rfl, rfl, rfl, by decide +kernel, rfl, by decide +kernel, by decide +kernel⟩
abbrev s_l_turned : Stmt := top 54
theorem sc_l_turned : FnScope ["_law_works", "_law_wide", "_law_level", "_law_hit", "_law_told", "e"] ["_law_works", "_law_wide", "_law_level"] (defScope s_l_turned) := ⟨rfl, rfl, rfl, by decide +kernel, rfl, by decide +kernel, by decide +kernel⟩
abbrev s_law : Stmt := top 55
theorem sc_law : FnScope ["_law_script", "_law_depths_here", "_law_codes_here", "_law_slow", "_law_fast", "_law_works", "_law_many", "_law_gates", "_law_rows", "_law_k", "_law_cell", "_law_wide", "_law_level", "_law_told", "_law_hit"] ["_law_script"] (defScope s_law) := ⟨rfl, rfl, rfl, by decide +kernel, rfl, by decide +kernel, by decide +kernel⟩
structure Adr where
  UnknownLevel : Addr
  UnknownLoad : Addr
  BadLoads : Addr
  BadCodes : Addr
  BadDepths : Addr
  BadSpeeds : Addr
  BookFull : Addr
  NoChange : Addr
  CageError : Addr
  Yard : Addr
  Bells : Addr
  Standing : Addr
  Book : Addr
  Works : Addr
  t_CAGE_SPOTS : Addr
structure Txt (K : PySem.W.Frag) (mg : Str → Option Value) (Z : Adr) : Prop where
  g_len : mg "len" = none
  g_zip : mg "zip" = none
  g_list : mg "list" = none
  g_range : mg "range" = none
  g_isinstance : mg "isinstance" = none
  g_tuple : mg "tuple" = none
  g_int : mg "int" = none
  g_str : mg "str" = none
  g_bool : mg "bool" = none
  g_min : mg "min" = none
  c_MOST_LOADS : ∃ u, mg "MOST_LOADS" = some u ∧ RelV (.int 30) u
  c_FEWEST_STROKES : ∃ u, mg "FEWEST_STROKES" = some u ∧ RelV (.int 1) u
  c_MOST_STROKES : ∃ u, mg "MOST_STROKES" = some u ∧ RelV (.int 9) u
  c_FEWEST_LEVELS : ∃ u, mg "FEWEST_LEVELS" = some u ∧ RelV (.int 2) u
  c_MOST_LEVELS : ∃ u, mg "MOST_LEVELS" = some u ∧ RelV (.int 6) u
  c_GREATEST_DEPTH : ∃ u, mg "GREATEST_DEPTH" = some u ∧ RelV (.int 500) u
  c_GREATEST_SPEED : ∃ u, mg "GREATEST_SPEED" = some u ∧ RelV (.int 500) u
  c_MOST_DEEDS : ∃ u, mg "MOST_DEEDS" = some u ∧ RelV (.int 300) u
  c_CAGE_SPOTS : ∃ u, mg "CAGE_SPOTS" = some u ∧ RelV (.ref Z.t_CAGE_SPOTS) u
  q_CAGE_SPOTS : ∀ H, SqT K H Z.t_CAGE_SPOTS [.int 10, .int 11]
  m_UnknownLevel : mg "UnknownLevel" = some (.ref Z.UnknownLevel)
  m_UnknownLoad : mg "UnknownLoad" = some (.ref Z.UnknownLoad)
  m_BadLoads : mg "BadLoads" = some (.ref Z.BadLoads)
  m_BadCodes : mg "BadCodes" = some (.ref Z.BadCodes)
  m_BadDepths : mg "BadDepths" = some (.ref Z.BadDepths)
  m_BadSpeeds : mg "BadSpeeds" = some (.ref Z.BadSpeeds)
  m_BookFull : mg "BookFull" = some (.ref Z.BookFull)
  m_NoChange : mg "NoChange" = some (.ref Z.NoChange)
  m_CageError : mg "CageError" = some (.ref Z.CageError)
  m_Yard : mg "Yard" = some (.ref Z.Yard)
  m_Bells : mg "Bells" = some (.ref Z.Bells)
  m_Standing : mg "Standing" = some (.ref Z.Standing)
  m_Book : mg "Book" = some (.ref Z.Book)
  m_Works : mg "Works" = some (.ref Z.Works)
  cl_Yard : Cls K Z.Yard
  na_Yard_kinds : NoAttr K Z.Yard "kinds"
  na_Yard_where : NoAttr K Z.Yard "where"
  na_Yard_many : NoAttr K Z.Yard "many"
  cl_Bells : Cls K Z.Bells
  na_Bells_codes : NoAttr K Z.Bells "codes"
  na_Bells_failed : NoAttr K Z.Bells "failed"
  na_Bells_state : NoAttr K Z.Bells "state"
  cl_Standing : Cls K Z.Standing
  na_Standing_place : NoAttr K Z.Standing "place"
  na_Standing_opened : NoAttr K Z.Standing "opened"
  na_Standing_bells : NoAttr K Z.Standing "bells"
  na_Standing_yard : NoAttr K Z.Standing "yard"
  cl_Book : Cls K Z.Book
  na_Book_first : NoAttr K Z.Book "first"
  na_Book_most : NoAttr K Z.Book "most"
  na_Book_rows : NoAttr K Z.Book "rows"
  cl_Works : Cls K Z.Works
  na_Works_depths : NoAttr K Z.Works "depths"
  na_Works_slow : NoAttr K Z.Works "slow"
  na_Works_fast : NoAttr K Z.Works "fast"
  na_Works_goals : NoAttr K Z.Works "goals"
  na_Works_log : NoAttr K Z.Works "log"
  x_UnknownLevel : ExC K Z.UnknownLevel
  i_UnknownLevel : ExI K Z.UnknownLevel
  e_UnknownLevel_CageError : PySem.W.exmOne K (.ref Z.UnknownLevel) (.ref Z.CageError) = some true
  k_UnknownLevel_NoChange : PySem.W.kitOne K (.ref Z.UnknownLevel) (.ref Z.NoChange) = some false
  k_UnknownLevel_UnknownLevel : PySem.W.kitOne K (.ref Z.UnknownLevel) (.ref Z.UnknownLevel) = some true
  x_UnknownLoad : ExC K Z.UnknownLoad
  i_UnknownLoad : ExI K Z.UnknownLoad
  e_UnknownLoad_CageError : PySem.W.exmOne K (.ref Z.UnknownLoad) (.ref Z.CageError) = some true
  k_UnknownLoad_NoChange : PySem.W.kitOne K (.ref Z.UnknownLoad) (.ref Z.NoChange) = some false
  k_UnknownLoad_UnknownLevel : PySem.W.kitOne K (.ref Z.UnknownLoad) (.ref Z.UnknownLevel) = some false
  x_BadLoads : ExC K Z.BadLoads
  i_BadLoads : ExI K Z.BadLoads
  e_BadLoads_CageError : PySem.W.exmOne K (.ref Z.BadLoads) (.ref Z.CageError) = some true
  k_BadLoads_NoChange : PySem.W.kitOne K (.ref Z.BadLoads) (.ref Z.NoChange) = some false
  k_BadLoads_UnknownLevel : PySem.W.kitOne K (.ref Z.BadLoads) (.ref Z.UnknownLevel) = some false
  x_BadCodes : ExC K Z.BadCodes
  i_BadCodes : ExI K Z.BadCodes
  e_BadCodes_CageError : PySem.W.exmOne K (.ref Z.BadCodes) (.ref Z.CageError) = some true
  k_BadCodes_NoChange : PySem.W.kitOne K (.ref Z.BadCodes) (.ref Z.NoChange) = some false
  k_BadCodes_UnknownLevel : PySem.W.kitOne K (.ref Z.BadCodes) (.ref Z.UnknownLevel) = some false
  x_BadDepths : ExC K Z.BadDepths
  i_BadDepths : ExI K Z.BadDepths
  e_BadDepths_CageError : PySem.W.exmOne K (.ref Z.BadDepths) (.ref Z.CageError) = some true
  k_BadDepths_NoChange : PySem.W.kitOne K (.ref Z.BadDepths) (.ref Z.NoChange) = some false
  k_BadDepths_UnknownLevel : PySem.W.kitOne K (.ref Z.BadDepths) (.ref Z.UnknownLevel) = some false
  x_BadSpeeds : ExC K Z.BadSpeeds
  i_BadSpeeds : ExI K Z.BadSpeeds
  e_BadSpeeds_CageError : PySem.W.exmOne K (.ref Z.BadSpeeds) (.ref Z.CageError) = some true
  k_BadSpeeds_NoChange : PySem.W.kitOne K (.ref Z.BadSpeeds) (.ref Z.NoChange) = some false
  k_BadSpeeds_UnknownLevel : PySem.W.kitOne K (.ref Z.BadSpeeds) (.ref Z.UnknownLevel) = some false
  x_BookFull : ExC K Z.BookFull
  i_BookFull : ExI K Z.BookFull
  e_BookFull_CageError : PySem.W.exmOne K (.ref Z.BookFull) (.ref Z.CageError) = some true
  k_BookFull_NoChange : PySem.W.kitOne K (.ref Z.BookFull) (.ref Z.NoChange) = some false
  k_BookFull_UnknownLevel : PySem.W.kitOne K (.ref Z.BookFull) (.ref Z.UnknownLevel) = some false
  x_NoChange : ExC K Z.NoChange
  i_NoChange : ExI K Z.NoChange
  e_NoChange_CageError : PySem.W.exmOne K (.ref Z.NoChange) (.ref Z.CageError) = some true
  k_NoChange_NoChange : PySem.W.kitOne K (.ref Z.NoChange) (.ref Z.NoChange) = some true
  k_NoChange_UnknownLevel : PySem.W.kitOne K (.ref Z.NoChange) (.ref Z.UnknownLevel) = some false
section
variable {P : Program} {w : World} {K : PySem.W.Frag} {mg : Str → Option Value} {base : Heap} {Z : Adr}
def SP_is_known (K : PySem.W.Frag) (Z : Adr) : Sp := fun vs H Q _ => ∃ (n m : Int), vs = [.int n, .int m] ∧ Q (.bl (decide (0 ≤ n ∧ n < m))) H
theorem ok_is_known {f : Addr} {fd : FuncData} (F : Fun K "is_known" "is_known" s_is_known f fd) (T : Txt K mg Z) : FnOk P w K mg base CX0 1 f fd ["number", "many"] (SP_is_known K Z) := by
  refine F.ok sc_is_known (fun vs H Q E h => ?_) (fun cdv A outer s H vs Q E hr h => ?_)
  · obtain ⟨n, m, rfl, q⟩ := h
    rfl
  · obtain ⟨n, m, rfl, q⟩ := h
    refine ⟨_, pss_one (ps_ret (pe_and (pe_cmpR op_ge (pv 0) pe_int (nomark _)) (pe_one (pe_cmpR op_lt (pv 0) (pv 1) (nomark _))))), ?_⟩
    walk_at "rd"
    split
    · rename_i h0
      rw [show decide (0 ≤ n ∧ n < m) = decide (n < m) by simp [h0]] at q
      exact q
    · rename_i h0
      rw [show decide (0 ≤ n ∧ n < m) = false by simp; omega] at q
      exact q
def SP_Yard_init (K : PySem.W.Frag) (Z : Adr) : Sp := fun vs H Q _ => ∃ (x dx l : Addr) (ls : List Ld) (m : Int), vs = [.ref x, .ref l, .int m] ∧ H x = some (.ins Z.Yard dx []) ∧ LoadsAt K H l ls ∧ ls.length ≤ 1000 ∧ ∀ (kn wh : Addr) (H' : Hp), H kn = none → H wh = none → kn ≠ wh → Keeps x H H' → YardAt Z.Yard H' x kn wh (ls.map (·.1)) (ls.map (·.2.1)) m → Q .non H'
theorem ok_Yard_init {f : Addr} {fd : FuncData} (F : Fun K "__init__" "Yard.__init__" s_Yard_init f fd) (T : Txt K mg Z) : FnOk P w K mg base CX0 1 f fd ["self", "loads", "many"] (SP_Yard_init K Z) := by
  refine F.ok sc_Yard_init (fun vs H Q E h => ?_) (fun cdv A outer s H vs Q E hr h => ?_)
  · obtain ⟨x, dx, l, ls, m, rfl, hx, hL, hn, q⟩ := h
    rfl
  · obtain ⟨x, dx, l, ls, m, rfl, hx, hL, hn, q⟩ := h
    refine ⟨_, pss_cons (ps_fld (pv 0) (pe_lc ["kind", "level", "goal"] [none, none, none] (pi_list (pv 1)) (fun _ _ _ _ => (show PG _ _ (gTup K 3 _) from pg_tup (n := 3) rfl (pgs_cons (pg_name (i := 0) (show (["kind", "level", "goal"] : List Str).Nodup by decide +kernel) rfl (Or.inl rfl)) (pgs_cons (pg_name (i := 1) (show (["kind", "level", "goal"] : List Str).Nodup by decide +kernel) rfl (Or.inl rfl)) (pgs_cons (pg_name (i := 2) (show (["kind", "level", "goal"] : List Str).Nodup by decide +kernel) rfl (Or.inl rfl)) pgs_nil))))) (fun _ _ _ _ => pif_nil) (fun _ _ _ _ => (pv 0))) rfl) (pss_cons (ps_fld (pv 0) (pe_lc ["kind", "level", "goal"] [none, none, none] (pi_list (pv 1)) (fun _ _ _ _ => (show PG _ _ (gTup K 3 _) from pg_tup (n := 3) rfl (pgs_cons (pg_name (i := 0) (show (["kind", "level", "goal"] : List Str).Nodup by decide +kernel) rfl (Or.inl rfl)) (pgs_cons (pg_name (i := 1) (show (["kind", "level", "goal"] : List Str).Nodup by decide +kernel) rfl (Or.inl rfl)) (pgs_cons (pg_name (i := 2) (show (["kind", "level", "goal"] : List Str).Nodup by decide +kernel) rfl (Or.inl rfl)) pgs_nil))))) (fun _ _ _ _ => pif_nil) (fun _ _ _ _ => (pv 1))) rfl) (pss_one (ps_fld (pv 0) (pv 2) rfl))), ?_⟩
    walk_at "rd"
    obtain ⟨as, hS, hT⟩ := id hL
    refine ⟨⟨_, hS⟩, ?_⟩
    refine cj_loads (fun x => V.str x.1) hL (by rw [sizeLine_eq]; omega) rfl (fun x hx N hN => by walk_at "rd"; exact hN) fun kn hkn => ?_
    walk_at "rd"
    have k1 : L2.Keeps x H (upd (upd H kn (HO.lst (ls.map fun x => V.str x.1))) x (HO.ins Z.Yard dx (putF "kinds" (.ref kn) []))) := (Keeps.of ((Same.refl H).lay hkn)).put
    have hx1 : upd (upd H kn (HO.lst (ls.map fun x => V.str x.1))) x (HO.ins Z.Yard dx (putF "kinds" (.ref kn) [])) x = some (HO.ins Z.Yard dx [("kinds", .ref kn)]) := upd_same
    have nx : kn ≠ x := fun z => by rw [z, hx] at hkn; cases hkn
    have hk1 : upd (upd H kn (HO.lst (ls.map fun x => V.str x.1))) x (HO.ins Z.Yard dx (putF "kinds" (.ref kn) [])) kn = some (HO.lst (ls.map fun x => V.str x.1)) := by rw [upd_ne nx, upd_same]
    refine ⟨_, _, _, upo hx hkn, T.cl_Yard, T.na_Yard_kinds, by decide, ⟨_, hS.keepI k1 hx⟩, ?_⟩
    generalize upd (upd H kn (HO.lst (ls.map fun x => V.str x.1))) x (HO.ins Z.Yard dx (putF "kinds" (.ref kn) [])) = H1 at *
    refine cj_loads (fun x => V.int x.2.1) (hL.keepI k1 hx) (by rw [sizeLine_eq]; omega) rfl (fun x hx N hN => by walk_at "rd"; exact hN) fun wh hwh => ?_
    have nxw : wh ≠ x := fun z => by rw [z, hx1] at hwh; cases hwh
    have nkw : kn ≠ wh := fun z => by rw [z, hwh] at hk1; cases hk1
    refine ⟨_, _, _, upo hx1 hwh, T.cl_Yard, T.na_Yard_where, by show 1 < 1000; decide, _, _, _, upd_same, T.cl_Yard, T.na_Yard_many, Nat.lt_of_le_of_lt (length_putF _ _ _) (by show 2 < 1000; decide), ?_⟩
    refine q kn wh _ hkn ?_ nkw (((k1.trans (Keeps.of ((Same.refl H1).lay hwh))).put).put) ⟨⟨dx, ?_⟩, ?_, ?_⟩
    · cases e : H wh with
      | none => rfl
      | some o => have := k1 wh o nxw e; rw [hwh] at this; cases this
    · rw [upd_same]; rfl
    · rw [upd_ne nx, upd_ne nx, upd_ne nkw, hk1, List.map_map]; rfl
    · rw [upd_ne nxw, upd_ne nxw, upd_same, List.map_map]; rfl
def iv_men (y : Addr) (ks : List Str) (ws : List Int) (H : Hp) (i : Nat) (σ : St) (H' : Hp) : Prop := Same H H' ∧ (∃ t u, σ = [some (.ref y), t, u]) ∧ ∀ j k x, j < i → ks[j]? = some k → ws[j]? = some x → (decide (k = "men") && decide (x = 10 ∨ x = 11)) = false
def SP_Yard_men_aboard (K : PySem.W.Frag) (Z : Adr) : Sp := fun vs H Q _ => ∃ (y kn wh : Addr) (ks : List Str) (ws : List Int) (m : Int), vs = [.ref y] ∧ YardAt Z.Yard H y kn wh ks ws m ∧ ks.length = ws.length ∧ ∀ H', Same H H' → Q (.bl (menB ks ws)) H'
theorem ok_Yard_men_aboard {f : Addr} {fd : FuncData} (F : Fun K "men_aboard" "Yard.men_aboard" s_Yard_men_aboard f fd) (T : Txt K mg Z) : FnOk P w K mg base CX0 1 f fd ["self"] (SP_Yard_men_aboard K Z) := by
  refine F.ok sc_Yard_men_aboard (fun vs H Q E h => ?_) (fun cdv A outer s H vs Q E hr h => ?_)
  · obtain ⟨y, kn, wh, ks, ws, m, rfl, hy, hlen, q⟩ := h
    rfl
  · obtain ⟨y, kn, wh, ks, ws, m, rfl, hy, hlen, q⟩ := h
    refine ⟨_, pss_cons (ps_for PassesOwn.never rfl (pi_zip (by rfl) T.g_zip bo_zip (pe_fld (pv 0) (by rfl)) (pe_fld (pv 0) (by rfl))) (pg_tup rfl (pgs_cons (pg_name (i := 1) sc_Yard_men_aboard.nd rfl (Or.inl rfl)) (pgs_cons (pg_name (i := 2) sc_Yard_men_aboard.nd rfl (Or.inl rfl)) pgs_nil))) (pss_one (ps_if (pw_and (pt_cmpR op_eq (pv 1) pe_str (nomark _)) (pw_and1 (pt_cmpR op_in_seq (pv 2) (pe_globV (by rfl) T.c_CAGE_SPOTS) (by rfl)))).pt (pss_one (ps_ret pe_bl)) (pss_nil)))) (pss_one (ps_ret pe_bl)), ?_⟩
    obtain ⟨⟨dx, hob⟩, hkn, hwh⟩ := id hy
    walk_at "rd"
    refine ⟨_, _, _, hob, T.cl_Yard, T.na_Yard_kinds, _, rfl, _, _, _, hob, T.cl_Yard, T.na_Yard_where, _, rfl, ?_⟩
    walk_at "rd"
    refine ⟨⟨_, SqL.of hkn⟩, ⟨_, SqL.of hwh⟩, ?_⟩
    refine loop_inv ws.length (iv_men y ks ws H) ⟨Same.refl H, ⟨_, _, rfl⟩, fun j _ _ hj => absurd hj (Nat.not_lt_zero _)⟩ ?_ ?_ ?_ ?_
    · rintro i σ H' hi ⟨s1, _, _⟩
      have hk : ks[i]? = some ks[i] := List.getElem?_eq_getElem (by omega)
      exact ⟨_, _, _, _, s1.seq (SqL.of hkn), s1.seq (SqL.of hwh), by rw [List.getElem?_map, hk]; rfl, by rw [List.getElem?_map, getD_idx hi]; rfl⟩
    · rintro σ H' ⟨s1, _, _⟩
      exact ⟨_, _, s1.seq (SqL.of hkn), s1.seq (SqL.of hwh), .inr (by rw [List.length_map]; exact Nat.le_refl _)⟩
    · rintro i σ H' hi ⟨s1, ⟨t, u, rfl⟩, hj⟩ x H2 ⟨tp, z1, z2, rfl, htp, rfl, hz1, hz2⟩
      have hk : ks[i]? = some ks[i] := List.getElem?_eq_getElem (by omega)
      have hw : ws[i]? = some ws[i] := List.getElem?_eq_getElem hi
      have e := hz1 _ (s1.seq (SqL.of hkn))
      rw [List.getElem?_map, hk] at e
      cases e
      have e := hz2 _ (s1.seq (SqL.of hwh))
      rw [List.getElem?_map, hw] at e
      cases e
      walk_at "rd"
      refine ⟨_, SqT.of upd_same, rfl, _, _, rfl, _, _, rfl, rfl, ?_⟩
      walk_at "rd"
      have no : (decide (ks[i] = Str.ofString "men") && decide (ws[i] = 10 ∨ ws[i] = 11)) = false → iv_men y ks ws H (i + 1) [some (V.ref y), some (V.str ks[i]), some (V.int ws[i])] (upd H' tp (HO.tup [V.str ks[i], V.int ws[i]])) := fun hn => by
        refine ⟨s1.lay htp, ⟨_, _, rfl⟩, fun j k x hj' e1 e2 => ?_⟩
        by_cases e : j = i
        · subst e
          rw [hk] at e1; rw [hw] at e2
          cases e1; cases e2
          exact hn
        · exact hj j k x (by omega) e1 e2
      split
      · rename_i h1
        refine ⟨_, .inr (T.q_CAGE_SPOTS _), rfl, rfl, ?_⟩
        rw [inV_spots]
        walk_at "rd"
        split
        · rename_i h2
          have q' := q _ (s1.lay (o := HO.tup [V.str ks[i], V.int ws[i]]) htp)
          rw [menB_hit hk hw h1 h2] at q'
          exact q'
        · rename_i h2
          exact no (by simp [h2])
      · rename_i h1
        exact no (by simp [h1])
    · rintro σ H' ⟨s1, ⟨t, u, rfl⟩, hj⟩
      walk_at "rd"
      have q' := q _ s1
      rw [menB_take hj (.inr (Nat.le_refl _))] at q'
      exact q'
def SP_are_strokes (K : PySem.W.Frag) (Z : Adr) : Sp := fun vs H Q _ => ∃ (n : Int), vs = [.int n] ∧ Q (.bl (decide (1 ≤ n ∧ n ≤ 9))) H
theorem ok_are_strokes {f : Addr} {fd : FuncData} (F : Fun K "are_strokes" "are_strokes" s_are_strokes f fd) (T : Txt K mg Z) : FnOk P w K mg base CX0 1 f fd ["number"] (SP_are_strokes K Z) := by
  refine F.ok sc_are_strokes (fun vs H Q E h => ?_) (fun cdv A outer s H vs Q E hr h => ?_)
  · obtain ⟨n, rfl, q⟩ := h
    rfl
  · obtain ⟨n, rfl, q⟩ := h
    refine ⟨_, pss_one (ps_ret (pe_and (pe_cmpR op_ge (pv 0) (pe_globV (by rfl) T.c_FEWEST_STROKES) (nomark _)) (pe_one (pe_cmpR op_le (pv 0) (pe_globV (by rfl) T.c_MOST_STROKES) (nomark _))))), ?_⟩
    walk_at "rd"
    split
    · rename_i h0
      rw [show decide (1 ≤ n ∧ n ≤ 9) = decide (n ≤ 9) by simp [h0]] at q
      exact q
    · rename_i h0
      rw [show decide (1 ≤ n ∧ n ≤ 9) = false by simp; omega] at q
      exact q
def SP_Bells_init (K : PySem.W.Frag) (Z : Adr) : Sp := fun vs H Q _ => ∃ (x dx l : Addr) (ls : List Cd), vs = [.ref x, .ref l] ∧ H x = some (.ins Z.Bells dx []) ∧ RowsAt cdV K H l ls ∧ ls.length ≤ 1000 ∧ ∀ (cs fl st : Addr) (H' : Hp), H cs = none → H fl = none → Keeps x H H' → BellsAt Z.Bells K H' x cs fl st ls (ls.map fun _ => false) .no → Q .non H'
theorem ok_Bells_init {f : Addr} {fd : FuncData} (F : Fun K "__init__" "Bells.__init__" s_Bells_init f fd) (T : Txt K mg Z) : FnOk P w K mg base CX0 1 f fd ["self", "codes"] (SP_Bells_init K Z) := by
  refine F.ok sc_Bells_init (fun vs H Q E h => ?_) (fun cdv A outer s H vs Q E hr h => ?_)
  · obtain ⟨x, dx, l, ls, rfl, hx, hL, hn, q⟩ := h
    rfl
  · obtain ⟨x, dx, l, ls, rfl, hx, hL, hn, q⟩ := h
    refine ⟨_, pss_cons (ps_fld (pv 0) (pe_callTy call_list_of (by rfl) T.g_list bo_list (pa_cons (pv 1) pa_nil)) rfl) (pss_cons (ps_fld (pv 0) (pe_lc ["code"] [none] (pi_list (pv 1)) (fun _ _ _ _ => (pg_name (i := 0) (show (["code"] : List Str).Nodup by decide +kernel) rfl (Or.inl rfl))) (fun _ _ _ _ => pif_nil) (fun _ _ _ _ => pe_bl)) rfl) (pss_one (ps_fld (pv 0) (pe_tup (pa_cons pe_str (pa_cons pe_non (pa_cons pe_non (pa_cons pe_non pa_nil))))) rfl))), ?_⟩
    obtain ⟨as, hS, hT⟩ := id hL
    walk_at "rd"
    refine ⟨_, .inl hS, fun cs hcs => ?_⟩
    refine ⟨_, _, _, upo hx hcs, T.cl_Bells, T.na_Bells_codes, by decide, ?_⟩
    have nx : cs ≠ x := fun z => by rw [z, hx] at hcs; cases hcs
    have k1 : L2.Keeps x H (upd (upd H cs (HO.lst (as.map V.ref))) x (HO.ins Z.Bells dx (putF "codes" (.ref cs) []))) := (Keeps.of ((Same.refl H).lay hcs)).put
    have hx1 : upd (upd H cs (HO.lst (as.map V.ref))) x (HO.ins Z.Bells dx (putF "codes" (.ref cs) [])) x = some (HO.ins Z.Bells dx [("codes", .ref cs)]) := upd_same
    have hc1 : upd (upd H cs (HO.lst (as.map V.ref))) x (HO.ins Z.Bells dx (putF "codes" (.ref cs) [])) cs = some (HO.lst (as.map V.ref)) := by rw [upd_ne nx, upd_same]
    generalize upd (upd H cs (HO.lst (as.map V.ref))) x (HO.ins Z.Bells dx (putF "codes" (.ref cs) [])) = H1 at *
    refine ⟨⟨_, hS.keepI k1 hx⟩, ?_⟩
    refine cj_list_map (fun _ => true) (fun _ => V.bl false) (hS.keepI k1 hx) (by rw [List.length_map, hT.1, sizeLine_eq]; omega) rfl (fun y _ N hN => by walk_at "rd"; exact hN) (fun y _ _ N hN => by walk_at "rd"; exact hN) fun fl hfl => ?_
    walk_at "rd"
    have ef : ((as.map V.ref).filter fun _ => true).map (fun _ => V.bl false) = (ls.map fun _ => false).map V.bl := by
      rw [List.filter_eq_self.mpr (by simp), List.map_map, List.map_map]
      refine List.ext_getElem (by simp [hT.1]) fun i h1 h2 => by simp
    rw [ef]
    have nfx : fl ≠ x := fun z => by rw [z, hx1] at hfl; cases hfl
    have nfc : cs ≠ fl := fun z => by rw [← z, hc1] at hfl; cases hfl
    refine ⟨_, _, _, upo hx1 hfl, T.cl_Bells, T.na_Bells_failed, by show 1 < 1000; decide, ?_⟩
    have k2 : L2.Keeps x H1 (upd (upd H1 fl (HO.lst ((ls.map fun _ => false).map V.bl))) x (HO.ins Z.Bells dx (putF "failed" (.ref fl) [("codes", .ref cs)]))) := (Keeps.of ((Same.refl H1).lay hfl)).put
    have hx2 : upd (upd H1 fl (HO.lst ((ls.map fun _ => false).map V.bl))) x (HO.ins Z.Bells dx (putF "failed" (.ref fl) [("codes", .ref cs)])) x = some (HO.ins Z.Bells dx [("codes", .ref cs), ("failed", .ref fl)]) := by rw [upd_same]; rfl
    have hf2 : upd (upd H1 fl (HO.lst ((ls.map fun _ => false).map V.bl))) x (HO.ins Z.Bells dx (putF "failed" (.ref fl) [("codes", .ref cs)])) fl = some (HO.lst ((ls.map fun _ => false).map V.bl)) := by rw [upd_ne nfx, upd_same]
    generalize upd (upd H1 fl (HO.lst ((ls.map fun _ => false).map V.bl))) x (HO.ins Z.Bells dx (putF "failed" (.ref fl) [("codes", .ref cs)])) = H2 at *
    refine ⟨by decide, fun st hst => ⟨_, _, _, upo hx2 hst, T.cl_Bells, T.na_Bells_state, by show 2 < 1000; decide, ?_⟩⟩
    have nsx : st ≠ x := fun z => by rw [z, hx2] at hst; cases hst
    have k3 : L2.Keeps x H2 (upd (upd H2 st (HO.tup [V.str (Str.ofString "not rung"), V.non, V.non, V.non])) x (HO.ins Z.Bells dx (putF "state" (.ref st) [("codes", .ref cs), ("failed", .ref fl)]))) := (Keeps.of ((Same.refl H2).lay hst)).put
    refine q cs fl st _ hcs (k1.free nfx hfl) ((k1.trans k2).trans k3) ⟨⟨dx, by rw [upd_same]; rfl⟩, ⟨as, k3 _ _ nx (k2 _ _ nx hc1), ?_⟩, k3 _ _ nfx hf2, SqT.of (by rw [upd_ne nsx, upd_same]; rfl), nfc, by rw [List.length_map]⟩
    exact hT.keepI ((k1.trans k2).trans k3) hx
def iv_cd1 (a : Addr) (ds : List Int) (H : Hp) (i : Nat) (σ : St) (H' : Hp) : Prop := H' = H ∧ (∃ t, σ = [some (.ref a), t, none]) ∧ ∀ j, j < i → 0 ≤ ds.getD j 0 ∧ ds.getD j 0 ≤ 500
def iv_cd2 (a : Addr) (ds : List Int) (H : Hp) (i : Nat) (σ : St) (H' : Hp) : Prop := H' = H ∧ (∃ t u, σ = [some (.ref a), t, u]) ∧ ∀ j, j < i → ds.getD j 0 < ds.getD (j + 1) 0
def SP_check_depths (K : PySem.W.Frag) (Z : Adr) : Sp := fun vs H Q E => ∃ (a : Addr) (ds : List Int), vs = [.ref a] ∧ SqL K H a (ds.map V.int) ∧ ds.length ≤ 100000 ∧ (Shaft ds → Q .non H) ∧ (¬ Shaft ds → E (.ref Z.BadDepths) none H)
theorem ok_check_depths {f : Addr} {fd : FuncData} (F : Fun K "check_depths" "check_depths" s_check_depths f fd) (T : Txt K mg Z) : FnOk P w K mg base (CXf P w) 1 f fd ["depths"] (SP_check_depths K Z) := by
  refine F.okF sc_check_depths (fun vs H Q E h => ?_) (fun cdv A outer s H vs Q E hr h => ?_)
  · obtain ⟨a, ds, rfl, hS, hl, q1, q2⟩ := h
    rfl
  · obtain ⟨a, ds, rfl, hS, hl, q1, q2⟩ := h
    refine ⟨_, pss_cons (ps_if (pw_or (pt_cmpR op_lt (pe_callB call_len_seq (by rfl) T.g_len bo_len (pa_cons (pv 0) pa_nil)) (pe_globV (by rfl) T.c_FEWEST_LEVELS) (nomark _)) (pw_or1 (pt_cmpR op_gt (pe_callB call_len_seq (by rfl) T.g_len bo_len (pa_cons (pv 0) pa_nil)) (pe_globV (by rfl) T.c_MOST_LEVELS) (nomark _)))).pt (pss_one (ps_raise T.x_BadDepths (by rfl) T.m_BadDepths (pa_cons pe_str pa_nil))) (pss_nil)) (pss_cons (ps_for ownF rfl (pi_list (pv 0)) (pg_name (i := 1) sc_check_depths.nd rfl (Or.inl rfl)) (pss_one (ps_if (pw_or (pt_cmpR op_lt (pv 1) pe_int (nomark _)) (pw_or1 (pt_cmpR op_gt (pv 1) (pe_globV (by rfl) T.c_GREATEST_DEPTH) (nomark _)))).pt (pss_one (ps_raise T.x_BadDepths (by rfl) T.m_BadDepths (pa_cons pe_str pa_nil))) (pss_nil)))) (pss_one (ps_for ownF rfl (pi_range2 (by rfl) T.g_range (pa_cons pe_int (pa_cons (pe_callB call_len_seq (by rfl) T.g_len bo_len (pa_cons (pv 0) pa_nil)) pa_nil))) (pg_name (i := 2) sc_check_depths.nd rfl (Or.inl rfl)) (pss_one (ps_if (pt_cmpR op_le (pe_ix ix_list (pv 0) (pv 2) (fun _ _ => rfl)) (pe_ix ix_list (pv 0) (pe_op op_sub (pv 2) pe_int) (fun _ _ => rfl)) (nomark _)) (pss_one (ps_raise T.x_BadDepths (by rfl) T.m_BadDepths (pa_cons pe_str pa_nil))) (pss_nil)))))), ?_⟩
    walk_at "rd"
    refine ⟨_, .inl hS, ?_⟩
    rw [List.length_map]
    split
    · exact ⟨by decide, q2 fun h => by have := h.l2; omega⟩
    · refine ⟨_, .inl hS, ?_⟩
      rw [List.length_map]
      split
      · exact ⟨by decide, q2 fun h => by have := h.l6; omega⟩
      · refine ⟨⟨_, hS⟩, ?_⟩
        refine loop_list (ds.map V.int) (iv_cd1 a ds H) ⟨rfl, ⟨_, rfl⟩, fun j h => absurd h (Nat.not_lt_zero _)⟩ (fun i σ H' _ ⟨e, _⟩ => by rw [e]; exact hS) ?_ ?_
        · rintro i x σ H' hx ⟨rfl, ⟨t, rfl⟩, hj⟩
          obtain ⟨d, rfl, hd, hmem⟩ := map_int_some hx
          have hi : i < ds.length := (List.getElem?_eq_some_iff.mp hd).1
          have hdg : ds.getD i 0 = d := by rw [List.getD_eq_getElem?_getD, hd]; rfl
          walk_at "rd"
          split
          · exact ⟨by decide, q2 fun h => by have := h.lo d hmem; omega⟩
          · split
            · exact ⟨by decide, q2 fun h => by have := h.hi d hmem; omega⟩
            · refine ⟨rfl, ⟨_, rfl⟩, fun j hj' => ?_⟩
              by_cases e : j = i
              · rw [e, hdg]; omega
              · exact hj j (by omega)
        · rintro σ H' ⟨rfl, ⟨t, rfl⟩, hb⟩
          rw [List.length_map] at hb
          walk_at "rd"
          refine ⟨_, .inl hS, by rw [List.length_map]; omega, by rw [List.length_map]; omega, ?_⟩
          refine loop_range (iv_cd2 a ds H') ⟨rfl, ⟨_, _, rfl⟩, fun j h => absurd h (Nat.not_lt_zero _)⟩ ?_ ?_
          · rintro i σ H' hi ⟨rfl, ⟨t, u, rfl⟩, hj⟩
            rw [List.length_map] at hi
            walk_at "rd"
            refine ⟨_, hS, _, atI_int (by omega) (by omega), _, hS, _, atI_int (by omega) (by omega), ?_⟩
            walk_at "rd"
            rw [show (1 + (i : Int)).toNat = i + 1 by omega, show (1 + (i : Int) - 1).toNat = i by omega]
            split
            · refine ⟨by decide, q2 fun h => ?_⟩
              have := h.lt (i := i) (j := i + 1) (by omega) (by omega)
              omega
            · refine ⟨rfl, ⟨_, _, rfl⟩, fun j hj' => ?_⟩
              by_cases e : j = i
              · rw [e]; omega
              · exact hj j (by omega)
          · rintro σ H' ⟨rfl, ⟨t, u, rfl⟩, hu⟩
            rw [List.length_map] at hu
            walk_at "rd"
            exact q1 (Shaft.of (by omega) (by omega) hb fun i hi => hu i (by omega))
def SP_drum_whole (K : PySem.W.Frag) (Z : Adr) : Sp := fun vs H Q _ => ∃ (a : Addr) (ds : List Int), vs = [.ref a] ∧ SqL K H a (ds.map V.int) ∧ 0 < ds.length ∧ Q (.int (whole ds)) H
theorem ok_drum_whole {f : Addr} {fd : FuncData} (F : Fun K "drum_whole" "drum_whole" s_drum_whole f fd) (T : Txt K mg Z) : FnOk P w K mg base CX0 1 f fd ["depths"] (SP_drum_whole K Z) := by
  refine F.ok sc_drum_whole (fun vs H Q E h => ?_) (fun cdv A outer s H vs Q E hr h => ?_)
  · obtain ⟨a, ds, rfl, hS, hl, q⟩ := h
    rfl
  · obtain ⟨a, ds, rfl, hS, hl, q⟩ := h
    refine ⟨_, pss_one (ps_ret (pe_ix ix_list (pv 0) (pe_op op_sub (pe_callB call_len_seq (by rfl) T.g_len bo_len (pa_cons (pv 0) pa_nil)) pe_int) (fun _ _ => rfl))), ?_⟩
    walk_at "rd"
    refine ⟨_, .inl hS, _, hS, _, atI_int (by rw [List.length_map]; omega) (by rw [List.length_map]; omega), ?_⟩
    rw [List.length_map, show ((ds.length : Int) - 1).toNat = ds.length - 1 by omega]
    exact q
def iv_level (a : Addr) (ds : List Int) (d : Int) (H : Hp) (i : Nat) (σ : St) (H' : Hp) : Prop := H' = H ∧ (∃ t, σ = [some (.ref a), some (.int d), t]) ∧ ∀ j, j < i → ds.getD j 0 ≠ d
def SP_level_at (K : PySem.W.Frag) (Z : Adr) : Sp := fun vs H Q _ => ∃ (a : Addr) (ds : List Int) (d : Int), vs = [.ref a, .int d] ∧ SqL K H a (ds.map V.int) ∧ ds.length ≤ 100000 ∧ (∀ i : Nat, i < ds.length → ds.getD i 0 = d → Q (.int i) H) ∧ ((∀ i, i < ds.length → ds.getD i 0 ≠ d) → Q .non H)
theorem ok_level_at {f : Addr} {fd : FuncData} (F : Fun K "level_at" "level_at" s_level_at f fd) (T : Txt K mg Z) : FnOk P w K mg base CX0 1 f fd ["depths", "depth"] (SP_level_at K Z) := by
  refine F.ok sc_level_at (fun vs H Q E h => ?_) (fun cdv A outer s H vs Q E hr h => ?_)
  · obtain ⟨a, ds, d, rfl, hS, hl, q1, q2⟩ := h
    rfl
  · obtain ⟨a, ds, d, rfl, hS, hl, q1, q2⟩ := h
    refine ⟨_, pss_cons (ps_for PassesOwn.never rfl (pi_range1 (by rfl) T.g_range (pa_cons (pe_callB call_len_seq (by rfl) T.g_len bo_len (pa_cons (pv 0) pa_nil)) pa_nil)) (pg_name (i := 2) sc_level_at.nd rfl (Or.inl rfl)) (pss_one (ps_if (pt_cmpR op_eq (pe_ix ix_list (pv 0) (pv 2) (fun _ _ => rfl)) (pv 1) (nomark _)) (pss_one (ps_ret (pv 2))) (pss_nil)))) (pss_one (ps_ret pe_non)), ?_⟩
    walk_at "rd"
    refine ⟨_, .inl hS, by omega, by rw [List.length_map]; omega, loop_range (iv_level a ds d H) ⟨rfl, ⟨_, rfl⟩, fun _ h => absurd h (Nat.not_lt_zero _)⟩ ?_ ?_⟩
    · rintro i σ H' hi ⟨rfl, ⟨t, rfl⟩, hj⟩
      rw [List.length_map] at hi
      have hi' : i < ds.length := by omega
      walk_at "rd"
      refine ⟨_, hS, _, by rw [Int.zero_add]; exact atI_int' hi', ?_⟩
      walk_at "rd"
      split
      · rename_i he
        rw [Int.zero_add]
        exact q1 i hi' he
      · rename_i he
        refine ⟨rfl, ⟨_, rfl⟩, fun j hj' => ?_⟩
        by_cases e : j = i
        · rw [e]; exact he
        · exact hj j (by omega)
    · rintro σ H' ⟨rfl, ⟨t, rfl⟩, hj⟩
      walk_at "rd"
      refine q2 fun i hi => hj i ?_
      rw [List.length_map]
      omega
def SP_check_speeds (K : PySem.W.Frag) (Z : Adr) : Sp := fun vs H Q E => ∃ (sl fa : Int), vs = [.int sl, .int fa] ∧ if 1 ≤ sl ∧ sl ≤ fa ∧ fa ≤ 500 then Q .non H else E (.ref Z.BadSpeeds) none H
theorem ok_check_speeds {f : Addr} {fd : FuncData} (F : Fun K "check_speeds" "check_speeds" s_check_speeds f fd) (T : Txt K mg Z) : FnOk P w K mg base (CXf P w) 1 f fd ["slow", "fast"] (SP_check_speeds K Z) := by
  refine F.okF sc_check_speeds (fun vs H Q E h => ?_) (fun cdv A outer s H vs Q E hr h => ?_)
  · obtain ⟨sl, fa, rfl, q⟩ := h
    rfl
  · obtain ⟨sl, fa, rfl, q⟩ := h
    refine ⟨_, pss_one (ps_if (pw_or (pt_cmpR op_lt (pv 0) pe_int (nomark _)) (pw_or (pt_cmpR op_lt (pv 1) (pv 0) (nomark _)) (pw_or1 (pt_cmpR op_gt (pv 1) (pe_globV (by rfl) T.c_GREATEST_SPEED) (nomark _))))).pt (pss_one (ps_raise T.x_BadSpeeds (by rfl) T.m_BadSpeeds (pa_cons pe_str pa_nil))) (pss_nil)), ?_⟩
    walk_at "rd"
    split
    · rw [if_neg (by omega)] at q
      exact ⟨by decide, q⟩
    · split
      · rw [if_neg (by omega)] at q
        exact ⟨by decide, q⟩
      · split
        · rw [if_neg (by omega)] at q
          exact ⟨by decide, q⟩
        · rw [if_pos (by omega)] at q
          exact q
abbrev clZ (Z : Adr) : Cl := ⟨Z.Bells, Z.Yard, Z.Standing, Z.Book, Z.Works⟩
def SP_Standing_init (K : PySem.W.Frag) (Z : Adr) : Sp := fun vs H Q _ => ∃ (x dx o b y : Addr) (pl : Int) (gs : List Bool), vs = [.ref x, .int pl, .ref o, .ref b, .ref y] ∧ H x = some (.ins Z.Standing dx []) ∧ SqL K H o (gs.map V.bl) ∧ ∀ (ol : Addr) (H' : Hp), H ol = none → Keeps x H H' → H' x = some (.ins Z.Standing dx [("place", .int pl), ("opened", .ref ol), ("bells", .ref b), ("yard", .ref y)]) → H' ol = some (.lst (gs.map V.bl)) → Q .non H'
theorem ok_Standing_init {f : Addr} {fd : FuncData} (F : Fun K "__init__" "Standing.__init__" s_Standing_init f fd) (T : Txt K mg Z) : FnOk P w K mg base CX0 1 f fd ["self", "place", "opened", "bells", "yard"] (SP_Standing_init K Z) := by
  refine F.ok sc_Standing_init (fun vs H Q E h => ?_) (fun cdv A outer s H vs Q E hr h => ?_)
  · obtain ⟨x, dx, o, b, y, pl, gs, rfl, hx, hO, q⟩ := h
    rfl
  · obtain ⟨x, dx, o, b, y, pl, gs, rfl, hx, hO, q⟩ := h
    refine ⟨_, pss_cons (ps_fld (pv 0) (pv 1) rfl) (pss_cons (ps_fld (pv 0) (pe_callTy call_list_of (by rfl) T.g_list bo_list (pa_cons (pv 2) pa_nil)) rfl) (pss_cons (ps_fld (pv 0) (pv 3) rfl) (pss_one (ps_fld (pv 0) (pv 4) rfl)))), ?_⟩
    walk_at "rd"
    refine ⟨_, _, _, hx, T.cl_Standing, T.na_Standing_place, by decide, ?_⟩
    have k1 : L2.Keeps x H (upd H x (HO.ins Z.Standing dx (putF "place" (.int pl) []))) := (Keeps.of (Same.refl H)).put
    refine ⟨_, .inl (hO.keepI k1 hx), fun ol hol => ?_⟩
    have nol : ol ≠ x := fun z => by rw [z, upd_same] at hol; cases hol
    refine ⟨_, _, _, upo upd_same hol, T.cl_Standing, T.na_Standing_opened, by show 1 < 1000; decide, _, _, _, upd_same, T.cl_Standing, T.na_Standing_bells, by show 2 < 1000; decide, _, _, _, upd_same, T.cl_Standing, T.na_Standing_yard, by show 3 < 1000; decide, ?_⟩
    refine q ol _ (k1.free nol hol) (((k1.trans (Keeps.of ((Same.refl _).lay hol))).put).put.put) ?_ ?_
    · rw [upd_same]; rfl
    · rw [upd_ne nol, upd_ne nol, upd_ne nol, upd_same]
def SP_Book_init (K : PySem.W.Frag) (Z : Adr) : Sp := fun vs H Q _ => ∃ (x dx f : Addr), vs = [.ref x, .ref f, .int 300] ∧ H x = some (.ins Z.Book dx []) ∧ ∀ (rl : Addr) (H' : Hp), H rl = none → Keeps x H H' → H' x = some (.ins Z.Book dx [("first", .ref f), ("most", .int 300), ("rows", .ref rl)]) → H' rl = some (.lst []) → Q .non H'
theorem ok_Book_init {f : Addr} {fd : FuncData} (F : Fun K "__init__" "Book.__init__" s_Book_init f fd) (T : Txt K mg Z) : FnOk P w K mg base CX0 1 f fd ["self", "first", "most"] (SP_Book_init K Z) := by
  refine F.ok sc_Book_init (fun vs H Q E h => ?_) (fun cdv A outer s H vs Q E hr h => ?_)
  · obtain ⟨x, dx, f0, rfl, hx, q⟩ := h
    rfl
  · obtain ⟨x, dx, f0, rfl, hx, q⟩ := h
    refine ⟨_, pss_cons (ps_fld (pv 0) (pv 1) rfl) (pss_cons (ps_fld (pv 0) (pv 2) rfl) (pss_one (ps_fld (pv 0) (pe_lst pa_nil) rfl))), ?_⟩
    walk_at "rd"
    refine ⟨_, _, _, hx, T.cl_Book, T.na_Book_first, by decide, _, _, _, upd_same, T.cl_Book, T.na_Book_most, by show 1 < 1000; decide, by decide, fun rl hrl => ?_⟩
    have k1 : L2.Keeps x H (upd (upd H x (HO.ins Z.Book dx (putF "first" (.ref f0) []))) x (HO.ins Z.Book dx (putF "most" (.int 300) (putF "first" (.ref f0) [])))) := ((Keeps.of (Same.refl H)).put).put
    have nrl : rl ≠ x := fun z => by rw [z, upd_same] at hrl; cases hrl
    refine ⟨_, _, _, upo upd_same hrl, T.cl_Book, T.na_Book_rows, by show 2 < 1000; decide, ?_⟩
    refine q rl _ (k1.free nrl hrl) ((k1.trans (Keeps.of ((Same.refl _).lay hrl))).put) ?_ ?_
    · rw [upd_same]; rfl
    · rw [upd_ne nrl, upd_same]
def SP_Book_now (K : PySem.W.Frag) (Z : Adr) : Sp := fun vs H Q _ => ∃ (bk rl : Addr) (g : Cfg) (n0 : Snap) (rs : List Row), vs = [.ref bk] ∧ BAt (clZ Z) K H bk rl g n0 rs ∧ Q (.int (nowF rs)) H
theorem ok_Book_now {f : Addr} {fd : FuncData} (F : Fun K "now" "Book.now" s_Book_now f fd) (T : Txt K mg Z) : FnOk P w K mg base CX0 1 f fd ["self"] (SP_Book_now K Z) := by
  refine F.ok sc_Book_now (fun vs H Q E h => ?_) (fun cdv A outer s H vs Q E hr h => ?_)
  · obtain ⟨bk, rl, g, n0, rs, rfl, hB, q⟩ := h
    rfl
  · obtain ⟨bk, rl, g, n0, rs, rfl, hB, q⟩ := h
    refine ⟨_, pss_cons (ps_if (pt_not (pt_truth (pe_fld (pv 0) (by rfl)) (fun _ => rfl))) (pss_one (ps_ret pe_int)) (pss_nil)) (pss_one (ps_ret (pe_ix ix_tup (pe_ix ix_list (pe_fld (pv 0) (by rfl)) (pe_op op_sub (pe_callB call_len_seq (by rfl) T.g_len bo_len (pa_cons (pe_fld (pv 0) (by rfl)) pa_nil)) pe_int) (fun _ _ => rfl)) pe_int (fun _ _ => rfl)))), ?_⟩
    obtain ⟨⟨dx, f0, hob, hF⟩, as, hrl, hR⟩ := id hB
    walk_at "rd"
    refine ⟨_, _, _, hob, T.cl_Book, T.na_Book_rows, _, rfl, _, .inl ⟨_, SqL.of hrl, rfl⟩, ?_⟩
    rcases nil_or_snoc rs with rfl | ⟨rs', r, rfl⟩
    · have e : as = [] := List.length_eq_zero_iff.mp hR.1
      subst e
      exact q
    · obtain ⟨as', a, rfl, hR', dd, s, hra, _, _⟩ := hR.last
      rw [if_neg (by simp)]
      refine ⟨_, _, _, hob, T.cl_Book, T.na_Book_rows, _, rfl, ?_⟩
      walk_at "rd"
      refine ⟨_, _, _, hob, T.cl_Book, T.na_Book_rows, _, rfl, _, rfl, _, .inl (SqL.of hrl), _, SqL.of hrl, _, atI_lastA, _, rfl, _, hra, _, rfl, ?_⟩
      rw [nowF_last] at q
      exact q
def SP_Book_latest (K : PySem.W.Frag) (Z : Adr) : Sp := fun vs H Q _ => ∃ (bk rl : Addr) (g : Cfg) (n0 : Snap) (rs : List Row), vs = [.ref bk] ∧ BAt (clZ Z) K H bk rl g n0 rs ∧ ∀ s, StandAt (clZ Z) K H rl g s (lastSn n0 rs) → Q (.ref s) H
theorem ok_Book_latest {f : Addr} {fd : FuncData} (F : Fun K "latest" "Book.latest" s_Book_latest f fd) (T : Txt K mg Z) : FnOk P w K mg base CX0 1 f fd ["self"] (SP_Book_latest K Z) := by
  refine F.ok sc_Book_latest (fun vs H Q E h => ?_) (fun cdv A outer s H vs Q E hr h => ?_)
  · obtain ⟨bk, rl, g, n0, rs, rfl, hB, q⟩ := h
    rfl
  · obtain ⟨bk, rl, g, n0, rs, rfl, hB, q⟩ := h
    refine ⟨_, pss_cons (ps_if (pt_not (pt_truth (pe_fld (pv 0) (by rfl)) (fun _ => rfl))) (pss_one (ps_ret (pe_fld (pv 0) (by rfl)))) (pss_nil)) (pss_one (ps_ret (pe_ix ix_tup (pe_ix ix_list (pe_fld (pv 0) (by rfl)) (pe_op op_sub (pe_callB call_len_seq (by rfl) T.g_len bo_len (pa_cons (pe_fld (pv 0) (by rfl)) pa_nil)) pe_int) (fun _ _ => rfl)) pe_int (fun _ _ => rfl)))), ?_⟩
    obtain ⟨⟨dx, f0, hob, hF⟩, as, hrl, hR⟩ := id hB
    walk_at "rd"
    refine ⟨_, _, _, hob, T.cl_Book, T.na_Book_rows, _, rfl, _, .inl ⟨_, SqL.of hrl, rfl⟩, ?_⟩
    rcases nil_or_snoc rs with rfl | ⟨rs', r, rfl⟩
    · have e : as = [] := List.length_eq_zero_iff.mp hR.1
      subst e
      exact ⟨_, _, _, hob, T.cl_Book, T.na_Book_first, _, rfl, q f0 hF⟩
    · obtain ⟨as', a, rfl, hR', dd, s, hra, _, hs⟩ := hR.last
      rw [if_neg (by simp)]
      refine ⟨_, _, _, hob, T.cl_Book, T.na_Book_rows, _, rfl, ?_⟩
      walk_at "rd"
      refine ⟨_, _, _, hob, T.cl_Book, T.na_Book_rows, _, rfl, _, rfl, _, .inl (SqL.of hrl), _, SqL.of hrl, _, atI_lastA, _, rfl, _, hra, _, rfl, ?_⟩
      rw [lastSn_last] at q
      exact q s hs
def SP_Book_told (K : PySem.W.Frag) (Z : Adr) : Sp := fun vs H Q _ => ∃ (bk rl : Addr) (g : Cfg) (n0 : Snap) (rs : List Row), vs = [.ref bk] ∧ BAt (clZ Z) K H bk rl g n0 rs ∧ rs.length ≤ 1000 ∧ ∀ (p : Addr) (as : List Addr) (H' : Hp), H p = none → Same H H' → H' p = some (.lst (as.map V.ref)) → ToldAt K H' as rs → Q (.ref p) H'
theorem ok_Book_told {f : Addr} {fd : FuncData} (F : Fun K "told" "Book.told" s_Book_told f fd) (T : Txt K mg Z) : FnOk P w K mg base CX0 1 f fd ["self"] (SP_Book_told K Z) := by
  refine F.ok sc_Book_told (fun vs H Q E h => ?_) (fun cdv A outer s H vs Q E hr h => ?_)
  · obtain ⟨bk, rl, g, n0, rs, rfl, hB, hn, q⟩ := h
    rfl
  · obtain ⟨bk, rl, g, n0, rs, rfl, hB, hn, q⟩ := h
    refine ⟨_, pss_one (ps_ret (pe_lc ["began", "ended", "deed", "speed", "standing"] [none, none, none, none, none] (pi_list (pe_fld (pv 0) (by rfl))) (fun _ _ _ _ => (show PG _ _ (gTup K 5 _) from pg_tup (n := 5) rfl (pgs_cons (pg_name (i := 0) (show (["began", "ended", "deed", "speed", "standing"] : List Str).Nodup by decide +kernel) rfl (Or.inl rfl)) (pgs_cons (pg_name (i := 1) (show (["began", "ended", "deed", "speed", "standing"] : List Str).Nodup by decide +kernel) rfl (Or.inl rfl)) (pgs_cons (pg_name (i := 2) (show (["began", "ended", "deed", "speed", "standing"] : List Str).Nodup by decide +kernel) rfl (Or.inl rfl)) (pgs_cons (pg_name (i := 3) (show (["began", "ended", "deed", "speed", "standing"] : List Str).Nodup by decide +kernel) rfl (Or.inl rfl)) (pgs_cons (pg_name (i := 4) (show (["began", "ended", "deed", "speed", "standing"] : List Str).Nodup by decide +kernel) rfl (Or.inl rfl)) pgs_nil))))))) (fun _ _ _ _ => pif_nil) (fun _ _ _ _ => (pe_tup (pa_cons (pv 0) (pa_cons (pv 1) (pa_cons (pv 2) pa_nil))))))), ?_⟩
    obtain ⟨⟨dx, f0, hob, hF⟩, as, hrl, hR⟩ := id hB
    have hl := hR.1
    walk_at "rd"
    refine ⟨_, _, _, hob, T.cl_Book, T.na_Book_rows, _, rfl, ?_⟩
    walk_at "rd"
    refine ⟨⟨_, SqL.of hrl⟩, ?_⟩
    refine cj_inv rs.length (fun i acc H' => Same H H' ∧ ∃ bs : List Addr, acc = bs.map V.ref ∧ ToldAt K H' bs (rs.take i)) ⟨Same.refl H, [], rfl, rfl, fun i a r e _ => by simp at e⟩ ?_ ?_ ?_ ?_
    · rintro i acc H' hi ⟨s1, _⟩
      have hi' : i < as.length := by omega
      exact ⟨_, .ref as[i], SqL.of (s1 _ _ hrl), by rw [List.getElem?_map, List.getElem?_eq_getElem hi']; rfl⟩
    · rintro acc H' ⟨s1, _⟩
      exact ⟨_, SqL.of (s1 _ _ hrl), by rw [List.length_map]; omega⟩
    · rintro i acc H1 hi ⟨s1, bs, rfl, hb⟩
      have hi' : i < as.length := by omega
      have hbl := hb.1
      rw [List.length_take] at hbl
      refine ⟨small1000 (by rw [List.length_map]; omega), ?_⟩
      rintro x H2 ⟨e2, y⟩ M hM
      subst e2
      have hy := y _ (SqL.of (s1 _ _ hrl))
      rw [List.getElem?_map, List.getElem?_eq_getElem hi'] at hy
      cases hy
      obtain ⟨dd, s, hra, hdd, _⟩ := hR.2 i _ _ (List.getElem?_eq_getElem hi') (List.getElem?_eq_getElem hi)
      walk_at "rd"
      refine ⟨_, s1.tup hra, rfl, _, _, rfl, _, _, rfl, _, _, rfl, _, _, rfl, _, _, rfl, rfl, ?_⟩
      walk_at "rd"
      refine ⟨⟨rfl, fun k v e => ?_⟩, ?_⟩
      · match k, e with
        | 0, e => cases e
        | 1, e => cases e
        | 2, e => cases e
        | 3, e => cases e
        | 4, e => cases e
        | k + 5, e => simp at e
      · refine ⟨by decide, fun p hp => hM _ _ ⟨s1.lay hp, bs ++ [p], by rw [List.map_append]; rfl, ?_⟩⟩
        rw [List.take_succ_eq_append_getElem hi]
        exact (hb.same ((Same.refl _).lay hp)).push ⟨dd, SqT.of upd_same, (s1.lay hp).tup hdd⟩
    · rintro acc H1 ⟨s1, bs, rfl, hb⟩ p hp
      rw [List.take_length] at hb
      exact q p bs _ (s1.free hp) (s1.lay hp) upd_same (hb.same ((Same.refl H1).lay hp))
def SP_l_at (K : PySem.W.Frag) (Z : Adr) : Sp := fun vs H Q _ => ∃ (a : Addr) (ns : List Int) (k : Int), vs = [.ref a, .int k] ∧ SqL K H a (ns.map V.int) ∧ 0 ≤ k ∧ Q (.int (ns.getD k.toNat 0)) H
theorem ok_l_at {f : Addr} {fd : FuncData} (F : Fun K "_law_at" "_law_at" s_l_at f fd) (T : Txt K mg Z) : FnOk P w K mg base CX0 1 f fd ["_law_script", "_law_k"] (SP_l_at K Z) := by
  refine F.ok sc_l_at (fun vs H Q E h => ?_) (fun cdv A outer s H vs Q E hr h => ?_)
  · obtain ⟨a, ns, k, rfl, hS, hk, q⟩ := h
    rfl
  · obtain ⟨a, ns, k, rfl, hS, hk, q⟩ := h
    refine ⟨_, pss_cons (ps_if (pt_cmpR op_lt (pv 1) (pe_callB call_len_seq (by rfl) T.g_len bo_len (pa_cons (pv 0) pa_nil)) (nomark _)) (pss_one (ps_ret (pe_ix ix_list (pv 0) (pv 1) (fun _ _ => rfl)))) (pss_nil)) (pss_one (ps_ret pe_int)), ?_⟩
    walk_at "rd"
    refine ⟨_, .inl hS, ?_⟩
    rw [List.length_map]
    split
    · rename_i hlt
      exact ⟨_, hS, _, atI_int hk hlt, q⟩
    · rename_i hlt
      rw [getD_out (by omega)] at q
      exact q
def iv_draw (c k n : Int) (H : Hp) (_ : Nat) (σ : St) (H' : Hp) : Prop := H' = H ∧ ∃ r t, σ = [some (.int c), some (.int k), some (.int n), some (.int r), t, none]
def SP_l_draw (K : PySem.W.Frag) (Z : Adr) : Sp := fun vs H Q _ => ∃ (c k n : Int), vs = [.int c, .int k, .int n] ∧ 0 ≤ k ∧ k ≤ 100000 ∧ 0 < n ∧ ∀ r : Int, 0 ≤ r → r < n → Q (.int r) H
theorem ok_l_draw {f : Addr} {fd : FuncData} (F : Fun K "_law_draw" "_law_draw" s_l_draw f fd) (T : Txt K mg Z) : FnOk P w K mg base CX0 1 f fd ["_law_cell", "_law_k", "_law_span"] (SP_l_draw K Z) := by
  refine F.ok sc_l_draw (fun vs H Q E h => ?_) (fun cdv A outer s H vs Q E hr h => ?_)
  · obtain ⟨c, k, n, rfl, hk0, hk1, hn, q⟩ := h
    rfl
  · obtain ⟨c, k, n, rfl, hk0, hk1, hn, q⟩ := h
    refine ⟨_, pss_cons (ps_if (pt_cmpR op_eq (pe_op op_mod (pv 0) pe_int) pe_int (nomark _)) (pss_cons (ps_set (i := 3) sc_l_draw.nd rfl (Or.inl rfl) (pe_op op_fdiv (pv 0) pe_int)) (pss_cons (ps_for PassesOwn.never rfl (pi_range1 (by rfl) T.g_range (pa_cons (pv 1) pa_nil)) (pg_name (i := 4) sc_l_draw.nd rfl (Or.inl rfl)) (pss_one (ps_set (i := 3) sc_l_draw.nd rfl (Or.inl rfl) (pe_op op_fdiv (pv 3) pe_int)))) (pss_one (ps_ret (pe_op op_mod (pe_op op_mod (pv 3) pe_int) (pv 2)))))) (pss_nil)) (pss_cons (ps_set (i := 5) sc_l_draw.nd rfl (Or.inl rfl) (pe_op op_mod (pe_op op_add (pe_op op_add (pe_op op_mul (pv 0) pe_int) (pe_op op_mul (pv 1) pe_int)) pe_int) pe_int)) (pss_one (ps_ret (pe_op op_mod (pe_op op_fdiv (pe_op op_mod (pe_op op_mul (pv 5) (pe_op op_add (pv 5) pe_int)) pe_int) pe_int) (pv 2))))), ?_⟩
    walk_at "rd"
    split
    · refine ⟨by omega, by omega, loop_range (iv_draw c k n H) ⟨rfl, _, _, rfl⟩ ?_ ?_⟩
      · rintro i σ H' hi ⟨rfl, r, t, rfl⟩
        walk_at "rd"
        exact ⟨rfl, _, _, rfl⟩
      · rintro σ H' ⟨rfl, r, t, rfl⟩
        walk_at "rd"
        exact ⟨hn, q _ (Int.emod_nonneg _ (by omega)) (Int.emod_lt_of_pos _ hn)⟩
    · refine ⟨.inl ⟨by omega, by omega⟩, hn, q _ (Int.emod_nonneg _ (by omega)) (Int.emod_lt_of_pos _ hn)⟩
def SP_l_mixed (K : PySem.W.Frag) (Z : Adr) : Sp := fun vs H Q _ => ∃ (a : Addr) (ns : List Int) (k : Int), vs = [.ref a, .int k] ∧ SqL K H a (ns.map V.int) ∧ 0 ≤ k ∧ k < ns.length ∧ ∀ n : Int, Q (.int n) H
theorem ok_l_mixed {f : Addr} {fd : FuncData} (F : Fun K "_law_mixed" "_law_mixed" s_l_mixed f fd) (T : Txt K mg Z) : FnOk P w K mg base CX0 1 f fd ["_law_script", "_law_k"] (SP_l_mixed K Z) := by
  refine F.ok sc_l_mixed (fun vs H Q E h => ?_) (fun cdv A outer s H vs Q E hr h => ?_)
  · obtain ⟨a, ns, k, rfl, hS, hk0, hk1, q⟩ := h
    rfl
  · obtain ⟨a, ns, k, rfl, hS, hk0, hk1, q⟩ := h
    refine ⟨_, pss_cons (ps_set (i := 2) sc_l_mixed.nd rfl (Or.inl rfl) (pe_ix ix_list (pv 0) (pv 1) (fun _ _ => rfl))) (pss_cons (ps_if (pt_cmpR op_eq (pe_op op_mod (pe_ix ix_list (pv 0) pe_int (fun _ _ => rfl)) pe_int) pe_int (nomark _)) (pss_one (ps_ret (pv 2))) (pss_nil)) (pss_cons (ps_set (i := 3) sc_l_mixed.nd rfl (Or.inl rfl) (pe_op op_mod (pe_op op_add (pe_op op_add (pe_op op_mul (pv 2) pe_int) (pe_op op_mul (pv 1) pe_int)) pe_int) pe_int)) (pss_one (ps_ret (pe_op op_mod (pe_op op_mul (pv 3) (pe_op op_add (pv 3) pe_int)) pe_int))))), ?_⟩
    walk_at "rd"
    refine ⟨_, hS, _, atI_int hk0 hk1, _, hS, _, atI_int (ns := ns) (k := 0) (by omega) (by omega), ?_⟩
    walk_at "rd"
    split
    · exact q _
    · exact ⟨by omega, q _⟩
def SP_check_level (K : PySem.W.Frag) (Z : Adr) : Sp := fun vs H Q E => ∃ (lv m : Int), vs = [.int lv, .int m] ∧ (0 ≤ lv ∧ lv < m → Q .non H) ∧ (¬ (0 ≤ lv ∧ lv < m) → E (.ref Z.UnknownLevel) none H)
theorem ok_check_level {f : Addr} {fd : FuncData} (F : Fun K "check_level" "check_level" s_check_level f fd) (T : Txt K mg Z) {f_is_known : Addr} {fd_is_known : FuncData} (D_is_known : Def K mg "is_known" s_is_known ["number", "many"] f_is_known fd_is_known) (G_is_known : FnOk P w K mg base CX0 1 f_is_known fd_is_known ["number", "many"] (SP_is_known K Z)) : FnOk P w K mg base (CXf P w) 2 f fd ["level", "many"] (SP_check_level K Z) := by
  refine F.okF sc_check_level (fun vs H Q E h => ?_) (fun cdv A outer s H vs Q E hr h => ?_)
  · obtain ⟨lv, m, rfl, q1, q2⟩ := h
    rfl
  · obtain ⟨lv, m, rfl, q1, q2⟩ := h
    refine ⟨_, pss_one (ps_if (pt_not (pt_val (pe_call G_is_known (hr.mono (by decide)) (by rfl) D_is_known.m D_is_known.F.kp D_is_known.b .nil pass0 (pa_cons (pv 0) (pa_cons (pv 1) pa_nil))))) (pss_one (ps_raise T.x_UnknownLevel (by rfl) T.m_UnknownLevel (pa_cons pe_str pa_nil))) (pss_nil)), ?_⟩
    walk_at "rd"
    refine ⟨_, _, rfl, ?_⟩
    walk_at "rd"
    split
    · rename_i h
      exact ⟨by decide, q2 h⟩
    · rename_i h
      exact q1 (by simpa using h)
def SP_check_load (K : PySem.W.Frag) (Z : Adr) : Sp := fun vs H Q E => ∃ (n m : Int), vs = [.int n, .int m] ∧ (0 ≤ n ∧ n < m → Q .non H) ∧ (¬ (0 ≤ n ∧ n < m) → E (.ref Z.UnknownLoad) none H)
theorem ok_check_load {f : Addr} {fd : FuncData} (F : Fun K "check_load" "check_load" s_check_load f fd) (T : Txt K mg Z) {f_is_known : Addr} {fd_is_known : FuncData} (D_is_known : Def K mg "is_known" s_is_known ["number", "many"] f_is_known fd_is_known) (G_is_known : FnOk P w K mg base CX0 1 f_is_known fd_is_known ["number", "many"] (SP_is_known K Z)) : FnOk P w K mg base (CXf P w) 2 f fd ["number", "many"] (SP_check_load K Z) := by
  refine F.okF sc_check_load (fun vs H Q E h => ?_) (fun cdv A outer s H vs Q E hr h => ?_)
  · obtain ⟨n, m, rfl, q1, q2⟩ := h
    rfl
  · obtain ⟨n, m, rfl, q1, q2⟩ := h
    refine ⟨_, pss_one (ps_if (pt_not (pt_val (pe_call G_is_known (hr.mono (by decide)) (by rfl) D_is_known.m D_is_known.F.kp D_is_known.b .nil pass0 (pa_cons (pv 0) (pa_cons (pv 1) pa_nil))))) (pss_one (ps_raise T.x_UnknownLoad (by rfl) T.m_UnknownLoad (pa_cons pe_str pa_nil))) (pss_nil)), ?_⟩
    walk_at "rd"
    refine ⟨_, _, rfl, ?_⟩
    walk_at "rd"
    split
    · rename_i h
      exact ⟨by decide, q2 h⟩
    · rename_i h
      exact q1 (by simpa using h)
def iv_cl (l : Addr) (m : Int) (ls : List Ld) (H : Hp) (i : Nat) (σ : St) (H' : Hp) : Prop := H' = H ∧ (∃ t u v, σ = [some (.ref l), some (.int m), t, u, v]) ∧ ∀ (j : Nat) x, j < i → ls[j]? = some x → GoodLd m x
def SP_check_loads (K : PySem.W.Frag) (Z : Adr) : Sp := fun vs H Q E => ∃ (l : Addr) (ls : List Ld) (m : Int), vs = [.ref l, .int m] ∧ LoadsAt K H l ls ∧ ((ls.length ≤ 30 ∧ ∀ x ∈ ls, GoodLd m x) → Q .non H) ∧ (¬ (ls.length ≤ 30 ∧ ∀ x ∈ ls, GoodLd m x) → E (.ref Z.BadLoads) none H)
theorem ok_check_loads {f : Addr} {fd : FuncData} (F : Fun K "check_loads" "check_loads" s_check_loads f fd) (T : Txt K mg Z) {f_is_known : Addr} {fd_is_known : FuncData} (D_is_known : Def K mg "is_known" s_is_known ["number", "many"] f_is_known fd_is_known) (G_is_known : FnOk P w K mg base CX0 1 f_is_known fd_is_known ["number", "many"] (SP_is_known K Z)) : FnOk P w K mg base (CXf P w) 2 f fd ["loads", "many"] (SP_check_loads K Z) := by
  refine F.okF sc_check_loads (fun vs H Q E h => ?_) (fun cdv A outer s H vs Q E hr h => ?_)
  · obtain ⟨l, ls, m, rfl, hL, q1, q2⟩ := h
    rfl
  · obtain ⟨l, ls, m, rfl, hL, q1, q2⟩ := h
    refine ⟨_, pss_cons (ps_if (pt_cmpR op_gt (pe_callB call_len_seq (by rfl) T.g_len bo_len (pa_cons (pv 0) pa_nil)) (pe_globV (by rfl) T.c_MOST_LOADS) (nomark _)) (pss_one (ps_raise T.x_BadLoads (by rfl) T.m_BadLoads (pa_cons pe_str pa_nil))) (pss_nil)) (pss_one (ps_for ownF rfl (pi_list (pv 0)) (pg_tup rfl (pgs_cons (pg_name (i := 2) sc_check_loads.nd rfl (Or.inl rfl)) (pgs_cons (pg_name (i := 3) sc_check_loads.nd rfl (Or.inl rfl)) (pgs_cons (pg_name (i := 4) sc_check_loads.nd rfl (Or.inl rfl)) pgs_nil)))) (pss_one (ps_if (pw_or (pt_not (pt_val (pe_call G_is_known (hr.mono (by decide)) (by rfl) D_is_known.m D_is_known.F.kp D_is_known.b .nil pass0 (pa_cons (pv 3) (pa_cons (pv 1) pa_nil))))) (pw_or1 (pt_not (pt_val (pe_call G_is_known (hr.mono (by decide)) (by rfl) D_is_known.m D_is_known.F.kp D_is_known.b .nil pass0 (pa_cons (pv 4) (pa_cons (pv 1) pa_nil))))))).pt (pss_one (ps_raise T.x_BadLoads (by rfl) T.m_BadLoads (pa_cons pe_str pa_nil))) (pss_nil))))), ?_⟩
    obtain ⟨as, hS, hlen, hT⟩ := id hL
    walk_at "rd"
    refine ⟨_, .inl hS, ?_⟩
    rw [List.length_map]
    split
    · exact ⟨by decide, q2 fun h => by omega⟩
    · refine ⟨⟨_, hS⟩, ?_⟩
      refine loop_list (as.map V.ref) (iv_cl l m ls H) ⟨rfl, ⟨_, _, _, rfl⟩, fun j x h => absurd h (Nat.not_lt_zero _)⟩ (fun i σ H' _ ⟨e, _⟩ => by rw [e]; exact hS) ?_ ?_
      · rintro i x σ H' hx ⟨rfl, ⟨t, u, v, rfl⟩, hj⟩
        rw [List.getElem?_map] at hx
        obtain ⟨a, ea, rfl⟩ := Option.map_eq_some_iff.mp hx
        have hi : i < as.length := (List.getElem?_eq_some_iff.mp ea).1
        have el : ls[i]? = some ls[i] := List.getElem?_eq_getElem (by omega)
        have hm : ls[i] ∈ ls := List.getElem_mem _
        walk_at "rd"
        refine ⟨_, hT i a _ ea el, rfl, _, _, rfl, _, _, rfl, _, _, rfl, rfl, ?_⟩
        walk_at "rd"
        refine ⟨_, _, rfl, ?_⟩
        walk_at "rd"
        split
        · rename_i h1
          exact ⟨by decide, q2 fun h => h1 (h.2 _ hm).1⟩
        · rename_i h1
          refine ⟨_, _, rfl, ?_⟩
          walk_at "rd"
          split
          · rename_i h2
            exact ⟨by decide, q2 fun h => h2 (h.2 _ hm).2⟩
          · rename_i h2
            refine ⟨rfl, ⟨_, _, _, rfl⟩, fun j x hj' hx => ?_⟩
            by_cases e : j = i
            · rw [e, el] at hx
              cases hx
              exact ⟨by omega, by omega⟩
            · exact hj j x (by omega) hx
      · rintro σ H' ⟨rfl, ⟨t, u, v, rfl⟩, hj⟩
        walk_at "rd"
        refine q1 ⟨by omega, fun x hx => ?_⟩
        obtain ⟨j, hj1, rfl⟩ := List.getElem_of_mem hx
        rw [List.length_map] at hj
        exact hj j _ (by omega) (List.getElem?_eq_getElem hj1)
def iv_cc (l : Addr) (m : Int) (ls : List Cd) (H : Hp) (i : Nat) (σ : St) (H' : Hp) : Prop := H' = H ∧ (∃ t u, σ = [some (.ref l), some (.int m), t, u]) ∧ ∀ (j : Nat) x, j < i → ls[j]? = some x → GoodCd x
def SP_check_codes (K : PySem.W.Frag) (Z : Adr) : Sp := fun vs H Q E => ∃ (l : Addr) (ls : List Cd) (m : Int), vs = [.ref l, .int m] ∧ RowsAt cdV K H l ls ∧ (((ls.length : Int) = m ∧ ∀ x ∈ ls, GoodCd x) → Q .non H) ∧ (¬ ((ls.length : Int) = m ∧ ∀ x ∈ ls, GoodCd x) → E (.ref Z.BadCodes) none H)
theorem ok_check_codes {f : Addr} {fd : FuncData} (F : Fun K "check_codes" "check_codes" s_check_codes f fd) (T : Txt K mg Z) {f_are_strokes : Addr} {fd_are_strokes : FuncData} (D_are_strokes : Def K mg "are_strokes" s_are_strokes ["number"] f_are_strokes fd_are_strokes) (G_are_strokes : FnOk P w K mg base CX0 1 f_are_strokes fd_are_strokes ["number"] (SP_are_strokes K Z)) : FnOk P w K mg base (CXf P w) 2 f fd ["codes", "many"] (SP_check_codes K Z) := by
  refine F.okF sc_check_codes (fun vs H Q E h => ?_) (fun cdv A outer s H vs Q E hr h => ?_)
  · obtain ⟨l, ls, m, rfl, hL, q1, q2⟩ := h
    rfl
  · obtain ⟨l, ls, m, rfl, hL, q1, q2⟩ := h
    refine ⟨_, pss_cons (ps_if (pt_cmpR op_ne (pe_callB call_len_seq (by rfl) T.g_len bo_len (pa_cons (pv 0) pa_nil)) (pv 1) (nomark _)) (pss_one (ps_raise T.x_BadCodes (by rfl) T.m_BadCodes (pa_cons pe_str pa_nil))) (pss_nil)) (pss_one (ps_for ownF rfl (pi_list (pv 0)) (pg_tup rfl (pgs_cons (pg_name (i := 2) sc_check_codes.nd rfl (Or.inl rfl)) (pgs_cons (pg_name (i := 3) sc_check_codes.nd rfl (Or.inl rfl)) pgs_nil))) (pss_cons (ps_if (pw_or (pt_not (pt_val (pe_call G_are_strokes (hr.mono (by decide)) (by rfl) D_are_strokes.m D_are_strokes.F.kp D_are_strokes.b .nil pass0 (pa_cons (pv 2) pa_nil)))) (pw_or1 (pt_not (pt_val (pe_call G_are_strokes (hr.mono (by decide)) (by rfl) D_are_strokes.m D_are_strokes.F.kp D_are_strokes.b .nil pass0 (pa_cons (pv 3) pa_nil)))))).pt (pss_one (ps_raise T.x_BadCodes (by rfl) T.m_BadCodes (pa_cons pe_str pa_nil))) (pss_nil)) (pss_one (ps_if (pt_cmpR op_eq (pv 2) (pv 3) (nomark _)) (pss_one (ps_raise T.x_BadCodes (by rfl) T.m_BadCodes (pa_cons pe_str pa_nil))) (pss_nil)))))), ?_⟩
    obtain ⟨as, hS, hlen, hT⟩ := id hL
    walk_at "rd"
    refine ⟨_, .inl hS, ?_⟩
    rw [List.length_map]
    split
    · exact ⟨by decide, q2 fun h => by omega⟩
    · refine ⟨⟨_, hS⟩, ?_⟩
      refine loop_list (as.map V.ref) (iv_cc l m ls H) ⟨rfl, ⟨_, _, rfl⟩, fun j x h => absurd h (Nat.not_lt_zero _)⟩ (fun i σ H' _ ⟨e, _⟩ => by rw [e]; exact hS) ?_ ?_
      · rintro i x σ H' hx ⟨rfl, ⟨t, u, rfl⟩, hj⟩
        rw [List.getElem?_map] at hx
        obtain ⟨a, ea, rfl⟩ := Option.map_eq_some_iff.mp hx
        have hi : i < as.length := (List.getElem?_eq_some_iff.mp ea).1
        have el : ls[i]? = some ls[i] := List.getElem?_eq_getElem (by omega)
        have hm : ls[i] ∈ ls := List.getElem_mem _
        walk_at "rd"
        refine ⟨_, hT i a _ ea el, rfl, _, _, rfl, _, _, rfl, rfl, ?_⟩
        walk_at "rd"
        refine ⟨_, rfl, ?_⟩
        walk_at "rd"
        split
        · rename_i h1
          exact ⟨by decide, q2 fun h => h1 (h.2 _ hm).1⟩
        · rename_i h1
          refine ⟨_, rfl, ?_⟩
          walk_at "rd"
          split
          · rename_i h2
            exact ⟨by decide, q2 fun h => h2 (h.2 _ hm).2.1⟩
          · rename_i h2
            split
            · rename_i h3
              exact ⟨by decide, q2 fun h => (h.2 _ hm).2.2 h3⟩
            · rename_i h3
              refine ⟨rfl, ⟨_, _, rfl⟩, fun j x hj' hx => ?_⟩
              by_cases e : j = i
              · rw [e, el] at hx
                cases hx
                exact ⟨by omega, by omega, h3⟩
              · exact hj j x (by omega) hx
      · rintro σ H' ⟨rfl, ⟨t, u, rfl⟩, hj⟩
        walk_at "rd"
        refine q1 ⟨by omega, fun x hx => ?_⟩
        obtain ⟨j, hj1, rfl⟩ := List.getElem_of_mem hx
        exact hj j _ (by rw [List.length_map]; omega) (List.getElem?_eq_getElem hj1)
def SP_other_place (K : PySem.W.Frag) (Z : Adr) : Sp := fun vs H Q _ => ∃ (a : Addr) (ds : List Int) (p : Int), vs = [.ref a, .int p] ∧ SqL K H a (ds.map V.int) ∧ 0 < ds.length ∧ Q (.int (whole ds - p)) H
theorem ok_other_place {f : Addr} {fd : FuncData} (F : Fun K "other_place" "other_place" s_other_place f fd) (T : Txt K mg Z) {f_drum_whole : Addr} {fd_drum_whole : FuncData} (D_drum_whole : Def K mg "drum_whole" s_drum_whole ["depths"] f_drum_whole fd_drum_whole) (G_drum_whole : FnOk P w K mg base CX0 1 f_drum_whole fd_drum_whole ["depths"] (SP_drum_whole K Z)) : FnOk P w K mg base CX0 2 f fd ["depths", "place"] (SP_other_place K Z) := by
  refine F.ok sc_other_place (fun vs H Q E h => ?_) (fun cdv A outer s H vs Q E hr h => ?_)
  · obtain ⟨a, ds, p, rfl, hS, hl, q⟩ := h
    rfl
  · obtain ⟨a, ds, p, rfl, hS, hl, q⟩ := h
    refine ⟨_, pss_one (ps_ret (pe_op op_sub (pe_call G_drum_whole (hr.mono (by decide)) (by rfl) D_drum_whole.m D_drum_whole.F.kp D_drum_whole.b .nil pass0 (pa_cons (pv 0) pa_nil)) (pv 1))), ?_⟩
    walk_at "rd"
    refine ⟨a, ds, rfl, hS, hl, ?_⟩
    walk_at "rd"
    exact q
def SP_Book_write (K : PySem.W.Frag) (Z : Adr) : Sp := fun vs H Q E => ∃ (bk rl dd s : Addr) (g : Cfg) (n0 n : Snap) (rs : List Row) (tk sp : Int) (dv : List V), vs = [.ref bk, .ref dd, .int tk, .int sp, .ref s] ∧ BAt (clZ Z) K H bk rl g n0 rs ∧ SqT K H dd dv ∧ StandAt (clZ Z) K H rl g s n ∧ (300 ≤ rs.length → E (.ref Z.BookFull) none H) ∧ (rs.length < 300 → ∀ H', Keeps rl H H' → BAt (clZ Z) K H' bk rl g n0 (rs ++ [⟨nowF rs, nowF rs + tk, dv, sp, n⟩]) → Q .non H')
theorem ok_Book_write {f : Addr} {fd : FuncData} (F : Fun K "write" "Book.write" s_Book_write f fd) (T : Txt K mg Z) {f_Book_now : Addr} {fd_Book_now : FuncData} (D_Book_now : MDef K Z.Book "now" "Book.now" s_Book_now ["self"] f_Book_now fd_Book_now) (G_Book_now : FnOk P w K mg base CX0 1 f_Book_now fd_Book_now ["self"] (SP_Book_now K Z)) : FnOk P w K mg base (CXf P w) 2 f fd ["self", "deed", "ticks", "speed", "standing"] (SP_Book_write K Z) := by
  refine F.okF sc_Book_write (fun vs H Q E h => ?_) (fun cdv A outer s H vs Q E hr h => ?_)
  · obtain ⟨bk, rl, dd, s0, g, n0, n, rs, tk, sp, dv, rfl, hB, hD, hS, q1, q2⟩ := h
    rfl
  · obtain ⟨bk, rl, dd, s0, g, n0, n, rs, tk, sp, dv, rfl, hB, hD, hS, q1, q2⟩ := h
    refine ⟨_, pss_cons (ps_if (pt_cmpR op_ge (pe_callB call_len_seq (by rfl) T.g_len bo_len (pa_cons (pe_fld (pv 0) (by rfl)) pa_nil)) (pe_fld (pv 0) (by rfl)) (nomark _)) (pss_one (ps_raise T.x_BookFull (by rfl) T.m_BookFull (pa_cons pe_str pa_nil))) (pss_nil)) (pss_cons (ps_set (i := 5) sc_Book_write.nd rfl (Or.inl rfl) (pe_meth0 (pv 0) T.cl_Book D_Book_now.M G_Book_now (hr.mono (by decide)) D_Book_now.b .nil pass0)) (pss_one (ps_expr (pe_bm PySem.F.plainAttrs_list PySem.F.slot_list_append PySem.F.type_list_append mt_append (pe_fld (pv 0) (by rfl)) (pa_cons (pe_tup (pa_cons (pv 5) (pa_cons (pe_op op_add (pv 5) (pv 2)) (pa_cons (pv 1) (pa_cons (pv 3) (pa_cons (pv 4) pa_nil)))))) pa_nil))))), ?_⟩
    obtain ⟨⟨dx, f0, hob, hF⟩, as, hrl, hR⟩ := id hB
    have hl := hR.1
    walk_at "rd"
    refine ⟨_, _, _, hob, T.cl_Book, T.na_Book_rows, _, rfl, ?_⟩
    walk_at "rd"
    refine ⟨_, .inl (SqL.of hrl), _, _, _, hob, T.cl_Book, T.na_Book_most, _, rfl, ?_⟩
    walk_at "rd"
    rw [List.length_map]
    split
    · exact ⟨by decide, q1 (by omega)⟩
    · rename_i hlt
      refine ⟨_, _, hob, rfl, _, _, _, _, _, rfl, hB, ?_⟩
      walk_at "rd"
      refine ⟨_, _, _, hob, T.cl_Book, T.na_Book_rows, _, rfl, ?_⟩
      walk_at "rd"
      refine ⟨.inl ⟨rfl, _, SqL.of hrl⟩, by decide, fun p hp => ⟨_, upo hrl hp, small1000 (by rw [List.length_map]; omega), ?_⟩⟩
      have s1 := (Same.refl H).lay (o := HO.tup [V.int (nowF rs), V.int (nowF rs + tk), V.ref dd, V.int sp, V.ref s0]) hp
      have hrl1 := upo (o := HO.tup [V.int (nowF rs), V.int (nowF rs + tk), V.ref dd, V.int sp, V.ref s0]) hrl hp
      have k1 : L2.Keeps rl H (upd (upd H p (HO.tup [V.int (nowF rs), V.int (nowF rs + tk), V.ref dd, V.int sp, V.ref s0])) rl (HO.lst (as.map V.ref ++ [V.ref p]))) := (Keeps.of s1).put
      refine q2 (by omega) _ k1 ⟨⟨dx, f0, k1 _ _ (fun z => by rw [z, hrl] at hob; cases hob) hob, hF.keep k1 hrl⟩, as ++ [p], by rw [upd_same, List.map_append]; rfl, ?_⟩
      exact (hR.keep k1 hrl).push ⟨dd, s0, (SqT.of upd_same).rew hrl1, hD.keep k1 hrl, hS.keep k1 hrl⟩
def SP_Works_speed_with (K : PySem.W.Frag) (Z : Adr) : Sp := fun vs H Q _ => ∃ (w bk rl : Addr) (g : Cfg) (n0 : Snap) (rs : List Row) (s : Addr) (n : Snap), vs = [.ref w, .ref s] ∧ WAt (clZ Z) K H w bk rl g n0 rs ∧ StandAt (clZ Z) K H rl g s n ∧ g.ks.length = n.ws.length ∧ ∀ H', Same H H' → Q (.int (speedF g n)) H'
theorem ok_Works_speed_with {f : Addr} {fd : FuncData} (F : Fun K "speed_with" "Works.speed_with" s_Works_speed_with f fd) (T : Txt K mg Z) {f_Yard_men_aboard : Addr} {fd_Yard_men_aboard : FuncData} (D_Yard_men_aboard : MDef K Z.Yard "men_aboard" "Yard.men_aboard" s_Yard_men_aboard ["self"] f_Yard_men_aboard fd_Yard_men_aboard) (G_Yard_men_aboard : FnOk P w K mg base CX0 1 f_Yard_men_aboard fd_Yard_men_aboard ["self"] (SP_Yard_men_aboard K Z)) : FnOk P w K mg base CX0 2 f fd ["self", "standing"] (SP_Works_speed_with K Z) := by
  refine F.ok sc_Works_speed_with (fun vs H Q E h => ?_) (fun cdv A outer s H vs Q E hr h => ?_)
  · obtain ⟨w, bk, rl, g, n0, rs, s0, n, rfl, hW, hS, hl, q⟩ := h
    rfl
  · obtain ⟨w, bk, rl, g, n0, rs, s0, n, rfl, hW, hS, hl, q⟩ := h
    refine ⟨_, pss_one (ps_ret (pe_ifExp (pt_val (pe_meth0 (pe_fld (pv 1) (by rfl)) T.cl_Yard D_Yard_men_aboard.M G_Yard_men_aboard (hr.mono (by decide)) D_Yard_men_aboard.b .nil pass0)) (pe_fld (pv 0) (by rfl)) (pe_fld (pv 0) (by rfl)))), ?_⟩
    obtain ⟨⟨dx, dl, gl, hob, hdl, hgl, n1, n2⟩, hB⟩ := id hW
    obtain ⟨⟨db, f0, hbo, hF⟩, as, hrl, hR⟩ := id hB
    walk_at "rd"
    obtain ⟨A, hA⟩ := id hS
    refine ⟨_, _, _, hA.ob, T.cl_Standing, T.na_Standing_yard, _, rfl, ?_⟩
    walk_at "rd"
    obtain ⟨dy, hyb⟩ := hA.ya.ob
    refine ⟨_, _, hyb, rfl, _, _, _, _, _, _, rfl, hA.ya, hl, fun H' s1 => ?_⟩
    walk_at "rd"
    have q' := q H' s1
    unfold speedF at q'
    split
    · rename_i h
      rw [if_pos h] at q'
      exact ⟨_, _, _, s1 _ _ hob, T.cl_Works, T.na_Works_slow, _, rfl, q'⟩
    · rename_i h
      rw [if_neg h] at q'
      exact ⟨_, _, _, s1 _ _ hob, T.cl_Works, T.na_Works_fast, _, rfl, q'⟩
def SP_Works_now (K : PySem.W.Frag) (Z : Adr) : Sp := fun vs H Q _ => ∃ (w bk rl : Addr) (g : Cfg) (n0 : Snap) (rs : List Row), vs = [.ref w] ∧ WAt (clZ Z) K H w bk rl g n0 rs ∧ Q (.int (nowF rs)) H
theorem ok_Works_now {f : Addr} {fd : FuncData} (F : Fun K "now" "Works.now" s_Works_now f fd) (T : Txt K mg Z) {f_Book_now : Addr} {fd_Book_now : FuncData} (D_Book_now : MDef K Z.Book "now" "Book.now" s_Book_now ["self"] f_Book_now fd_Book_now) (G_Book_now : FnOk P w K mg base CX0 1 f_Book_now fd_Book_now ["self"] (SP_Book_now K Z)) : FnOk P w K mg base CX0 2 f fd ["self"] (SP_Works_now K Z) := by
  refine F.ok sc_Works_now (fun vs H Q E h => ?_) (fun cdv A outer s H vs Q E hr h => ?_)
  · obtain ⟨w, bk, rl, g, n0, rs, rfl, hW, q⟩ := h
    rfl
  · obtain ⟨w, bk, rl, g, n0, rs, rfl, hW, q⟩ := h
    refine ⟨_, pss_one (ps_ret (pe_meth0 (pe_fld (pv 0) (by rfl)) T.cl_Book D_Book_now.M G_Book_now (hr.mono (by decide)) D_Book_now.b .nil pass0)), ?_⟩
    obtain ⟨⟨dx, dl, gl, hob, hdl, hgl, n1, n2⟩, hB⟩ := id hW
    obtain ⟨⟨db, f0, hbo, hF⟩, as, hrl, hR⟩ := id hB
    walk_at "rd"
    refine ⟨_, _, _, hob, T.cl_Works, T.na_Works_log, _, rfl, ?_⟩
    walk_at "rd"
    exact ⟨_, _, hbo, rfl, _, _, _, _, _, rfl, hB, q⟩
def SP_Works_book (K : PySem.W.Frag) (Z : Adr) : Sp := fun vs H Q _ => ∃ (w bk rl : Addr) (g : Cfg) (n0 : Snap) (rs : List Row), vs = [.ref w] ∧ WAt (clZ Z) K H w bk rl g n0 rs ∧ rs.length ≤ 1000 ∧ ∀ (p : Addr) (as : List Addr) (H' : Hp), H p = none → Same H H' → H' p = some (.lst (as.map V.ref)) → ToldAt K H' as rs → Q (.ref p) H'
theorem ok_Works_book {f : Addr} {fd : FuncData} (F : Fun K "book" "Works.book" s_Works_book f fd) (T : Txt K mg Z) {f_Book_told : Addr} {fd_Book_told : FuncData} (D_Book_told : MDef K Z.Book "told" "Book.told" s_Book_told ["self"] f_Book_told fd_Book_told) (G_Book_told : FnOk P w K mg base CX0 1 f_Book_told fd_Book_told ["self"] (SP_Book_told K Z)) : FnOk P w K mg base CX0 2 f fd ["self"] (SP_Works_book K Z) := by
  refine F.ok sc_Works_book (fun vs H Q E h => ?_) (fun cdv A outer s H vs Q E hr h => ?_)
  · obtain ⟨w, bk, rl, g, n0, rs, rfl, hW, hn, q⟩ := h
    rfl
  · obtain ⟨w, bk, rl, g, n0, rs, rfl, hW, hn, q⟩ := h
    refine ⟨_, pss_one (ps_ret (pe_meth0 (pe_fld (pv 0) (by rfl)) T.cl_Book D_Book_told.M G_Book_told (hr.mono (by decide)) D_Book_told.b .nil pass0)), ?_⟩
    obtain ⟨⟨dx, dl, gl, hob, hdl, hgl, n1, n2⟩, hB⟩ := id hW
    obtain ⟨⟨db, f0, hbo, hF⟩, as, hrl, hR⟩ := id hB
    walk_at "rd"
    refine ⟨_, _, _, hob, T.cl_Works, T.na_Works_log, _, rfl, ?_⟩
    walk_at "rd"
    exact ⟨_, _, hbo, rfl, _, _, _, _, _, rfl, hB, hn, q⟩
def SP_Works_gates (K : PySem.W.Frag) (Z : Adr) : Sp := fun vs H Q _ => ∃ (w bk rl : Addr) (g : Cfg) (n0 : Snap) (rs : List Row), vs = [.ref w] ∧ WAt (clZ Z) K H w bk rl g n0 rs ∧ ∀ p, H p = none → Q (.ref p) (upd H p (.lst ((lastSn n0 rs).gates.map V.bl)))
theorem ok_Works_gates {f : Addr} {fd : FuncData} (F : Fun K "gates" "Works.gates" s_Works_gates f fd) (T : Txt K mg Z) {f_Book_latest : Addr} {fd_Book_latest : FuncData} (D_Book_latest : MDef K Z.Book "latest" "Book.latest" s_Book_latest ["self"] f_Book_latest fd_Book_latest) (G_Book_latest : FnOk P w K mg base CX0 1 f_Book_latest fd_Book_latest ["self"] (SP_Book_latest K Z)) : FnOk P w K mg base CX0 2 f fd ["self"] (SP_Works_gates K Z) := by
  refine F.ok sc_Works_gates (fun vs H Q E h => ?_) (fun cdv A outer s H vs Q E hr h => ?_)
  · obtain ⟨w, bk, rl, g, n0, rs, rfl, hW, q⟩ := h
    rfl
  · obtain ⟨w, bk, rl, g, n0, rs, rfl, hW, q⟩ := h
    refine ⟨_, pss_one (ps_ret (pe_callTy call_list_of (by rfl) T.g_list bo_list (pa_cons (pe_fld (pe_meth0 (pe_fld (pv 0) (by rfl)) T.cl_Book D_Book_latest.M G_Book_latest (hr.mono (by decide)) D_Book_latest.b .nil pass0) (by rfl)) pa_nil))), ?_⟩
    obtain ⟨⟨dx, dl, gl, hob, hdl, hgl, n1, n2⟩, hB⟩ := id hW
    obtain ⟨⟨db, f0, hbo, hF⟩, as, hrl, hR⟩ := id hB
    walk_at "rd"
    refine ⟨_, _, _, hob, T.cl_Works, T.na_Works_log, _, rfl, ?_⟩
    walk_at "rd"
    refine ⟨_, _, hbo, rfl, _, _, _, _, _, rfl, hB, fun s0 ⟨A, hA⟩ => ?_⟩
    walk_at "rd"
    refine ⟨_, _, _, hA.ob, T.cl_Standing, T.na_Standing_opened, _, rfl, ?_⟩
    walk_at "rd"
    exact ⟨_, .inl (SqL.of hA.go), q⟩
def iv_depths (c r0 sh : Int) (l : Addr) (H : Hp) (i : Nat) (σ : St) (H' : Hp) : Prop := ∃ (ds : List Int) (last : Int) (t u : Option V), σ = [some (.int c), some (.int (2 + r0)), some (.int sh), none, some (.ref l), some (.int last), t, u] ∧ Rising ds last ∧ last ≤ 500 - (2 + r0) + i ∧ ds.length = i ∧ H' = upd H l (.lst (ds.map V.int))
def SP_l_depths (K : PySem.W.Frag) (Z : Adr) : Sp := fun vs H Q _ => ∃ (c : Int), vs = [.int c] ∧ ∀ (l : Addr) (ds : List Int) (H' : Hp), H l = none → Same H H' → H' l = some (.lst (ds.map V.int)) → Shaft ds → Q (.ref l) H'
theorem ok_l_depths {f : Addr} {fd : FuncData} (F : Fun K "_law_depths" "_law_depths" s_l_depths f fd) (T : Txt K mg Z) {f_l_draw : Addr} {fd_l_draw : FuncData} (D_l_draw : Def K mg "_law_draw" s_l_draw ["_law_cell", "_law_k", "_law_span"] f_l_draw fd_l_draw) (G_l_draw : FnOk P w K mg base CX0 1 f_l_draw fd_l_draw ["_law_cell", "_law_k", "_law_span"] (SP_l_draw K Z)) : FnOk P w K mg base CX0 2 f fd ["_law_cell"] (SP_l_depths K Z) := by
  refine F.ok sc_l_depths (fun vs H Q E h => ?_) (fun cdv A outer s H vs Q E hr h => ?_)
  · obtain ⟨c, rfl, q⟩ := h
    rfl
  · obtain ⟨c, rfl, q⟩ := h
    refine ⟨_, pss_cons (ps_set (i := 1) sc_l_depths.nd rfl (Or.inl rfl) (pe_op op_add pe_int (pe_call G_l_draw (hr.mono (by decide)) (by rfl) D_l_draw.m D_l_draw.F.kp D_l_draw.b .nil pass0 (pa_cons (pv 0) (pa_cons pe_int (pa_cons pe_int pa_nil)))))) (pss_cons (ps_set (i := 2) sc_l_depths.nd rfl (Or.inl rfl) (pe_call G_l_draw (hr.mono (by decide)) (by rfl) D_l_draw.m D_l_draw.F.kp D_l_draw.b .nil pass0 (pa_cons (pv 0) (pa_cons pe_int (pa_cons pe_int pa_nil))))) (pss_cons (ps_if (pt_cmpR op_eq (pv 2) pe_int (nomark _)) (pss_cons (ps_set (i := 3) sc_l_depths.nd rfl (Or.inr rfl) (pe_op op_add pe_int (pe_call G_l_draw (hr.mono (by decide)) (by rfl) D_l_draw.m D_l_draw.F.kp D_l_draw.b .nil pass0 (pa_cons (pv 0) (pa_cons pe_int (pa_cons pe_int pa_nil)))))) (pss_one (ps_ret (pe_lc ["_law_k", "_law_gap"] [none, some 3] (pi_range1 (by rfl) T.g_range (pa_cons (pv 1) pa_nil)) (fun _ _ _ _ => (pg_name (i := 0) (show (["_law_k", "_law_gap"] : List Str).Nodup by decide +kernel) rfl (Or.inl rfl))) (fun _ _ _ _ => pif_nil) (fun _ _ _ _ => (pe_op op_mul (pv 1) (pv 0))))))) (pss_nil)) (pss_cons (ps_set (i := 4) sc_l_depths.nd rfl (Or.inl rfl) (pe_lst pa_nil)) (pss_cons (ps_set (i := 5) sc_l_depths.nd rfl (Or.inl rfl) (pe_un un_neg pe_int)) (pss_cons (ps_for PassesOwn.never rfl (pi_range1 (by rfl) T.g_range (pa_cons (pv 1) pa_nil)) (pg_name (i := 6) sc_l_depths.nd rfl (Or.inl rfl)) (pss_cons (ps_set (i := 7) sc_l_depths.nd rfl (Or.inl rfl) (pe_op op_sub (pe_op op_add (pe_op op_sub pe_int (pv 1)) (pv 6)) (pv 5))) (pss_cons (ps_if (pt_cmpR op_eq (pv 2) pe_int (nomark _)) (pss_one (ps_set (i := 7) sc_l_depths.nd rfl (Or.inl rfl) (pe_callB (call_min2 rfl) (by rfl) T.g_min bo_min (pa_cons (pv 7) (pa_cons pe_int pa_nil))))) (pss_nil)) (pss_cons (ps_set (i := 5) sc_l_depths.nd rfl (Or.inl rfl) (pe_op op_add (pe_op op_add (pv 5) pe_int) (pe_call G_l_draw (hr.mono (by decide)) (by rfl) D_l_draw.m D_l_draw.F.kp D_l_draw.b .nil pass0 (pa_cons (pv 0) (pa_cons (pe_op op_add pe_int (pv 6)) (pa_cons (pv 7) pa_nil)))))) (pss_one (ps_expr (pe_bm PySem.F.plainAttrs_list PySem.F.slot_list_append PySem.F.type_list_append mt_append (pv 4) (pa_cons (pv 5) pa_nil)))))))) (pss_cons (ps_if (pw_and (pt_cmpR op_eq (pv 2) pe_int (nomark _)) (pw_and1 (pt_cmpR op_eq (pe_call G_l_draw (hr.mono (by decide)) (by rfl) D_l_draw.m D_l_draw.F.kp D_l_draw.b .nil pass0 (pa_cons (pv 0) (pa_cons pe_int (pa_cons pe_int pa_nil)))) pe_int (nomark _)))).pt (pss_one (ps_ret (pe_op op_cat (pe_op op_cat (pe_lst (pa_cons pe_int pa_nil)) (pe_slice sl_list (pv 4) (po_some pe_int) (po_some (pe_un un_neg pe_int)))) (pe_lst (pa_cons pe_int pa_nil))))) (pss_nil)) (pss_one (ps_ret (pv 4))))))))), ?_⟩
    walk_at "rd"
    refine ⟨c, 0, 5, rfl, by omega, by omega, by omega, fun r0 h0 h0' => ?_⟩
    walk_at "rd"
    refine ⟨c, 1, 4, rfl, by omega, by omega, by omega, fun sh h1 h1' => ?_⟩
    walk_at "rd"
    split
    · refine ⟨c, 2, 100, rfl, by omega, by omega, by omega, fun r2 h2 h2' => ?_⟩
      walk_at "rd"
      refine ⟨by omega, by omega, cj_range_map (fun i => V.int ((1 + r2) * (i : Int))) (Nat.le_trans (by omega : (2 + r0).toNat ≤ 1000) (by decide)) rfl (fun i hi N q => ?_) (fun p hp => ?_)⟩
      · walk_at "rd"
        rw [Int.zero_add]
        exact ⟨.inl ⟨by omega, by omega⟩, q⟩
      · refine q p ((List.range (2 + r0).toNat).map fun (i : Nat) => (1 + r2) * (i : Int)) _ hp (fun b o e => ?_) ?_ (Shaft.even (by omega) (by omega) (by omega) (by omega))
        · rw [upd_ne (ne_of_none e hp)]; exact e
        · rw [upd_same, List.map_map]; rfl
    · refine ⟨by decide, fun l hln => ⟨by omega, by omega, loop_range (iv_depths c r0 sh l H) ⟨[], -1, _, _, rfl, Rising.nil, by omega, rfl, rfl⟩ ?_ ?_⟩⟩
      · rintro i σ H' hi ⟨ds, last, t, u, rfl, hR, hla, hlen, rfl⟩
        have l0 := hR.l0
        walk_at "rd"
        split
        all_goals
          refine ⟨c, _, _, rfl, by omega, by omega, by (try split) <;> omega, fun r hr0 hr1 => ?_⟩
          walk_at "rd"
          refine ⟨.inl ⟨rfl, _, SqL.of upd_same⟩, _, upd_same, small1000 (by rw [List.length_map]; omega), ds ++ [last + 1 + r], last + 1 + r, _, _, rfl, hR.snoc hr0, ?_, by rw [List.length_append, hlen]; rfl, ?_⟩
          · (try split at hr1) <;> omega
          · rw [upd_upd, List.map_append]; rfl
      · rintro σ H' ⟨ds, last, t, u, rfl, hR, hla, hlen, rfl⟩
        have hsh := hR.shaft (by omega) (by omega) (by omega)
        have hQ0 : Q (V.ref l) (upd H l (HO.lst (List.map V.int ds))) := q l ds _ hln ((Same.refl H).lay hln) upd_same hsh
        walk_at "rd"
        split
        · refine ⟨c, 8, 4, rfl, by omega, by omega, by omega, fun r hr0 hr1 => ?_⟩
          walk_at "rd"
          split
          · refine ⟨by decide, fun p1 hp1 => ⟨_, SqL.of (upo upd_same hp1), fun p2 hp2 => ⟨_, upo upd_same hp2, _, upd_same, ?_, fun p3 hp3 => ⟨by decide, fun p4 hp4 => ⟨_, upo upd_same hp4, _, upd_same, ?_, fun p5 hp5 => ?_⟩⟩⟩⟩⟩
            · have := cutV_length (List.map V.int ds) (some 1) (some (-1))
              rw [List.length_map] at this
              exact Nat.le_of_lt (small1000 (by rw [List.length_singleton]; omega))
            · have := cutV_length (List.map V.int ds) (some 1) (some (-1))
              rw [List.length_map] at this
              exact Nat.le_of_lt (small1000 (by rw [List.length_append, List.length_singleton, List.length_singleton]; omega))
            · refine q p5 ([0] ++ (ds.drop 1).take (ds.length - 1 - 1) ++ [500]) _ (upn (upn (upn (upn (upn hp5))))) ((((((Same.refl H).lay hln).lay hp1).lay hp2).lay hp3).lay hp4 |>.lay hp5) ?_ hsh.ends
              rw [upd_same, cut_ends ds hsh.l2, List.map_append, List.map_append]
              rfl
          · exact hQ0
        · exact hQ0
def iv_codes (K : PySem.W.Frag) (c m : Int) (l : Addr) (H : Hp) (i : Nat) (σ : St) (H' : Hp) : Prop := Same H H' ∧ ∃ (as : List Addr) (ls : List Cd) (t u : Option V), σ = [some (.int c), some (.int m), some (.ref l), t, u] ∧ H' l = some (.lst (as.map V.ref)) ∧ TupsF cdV K H' as ls ∧ ls.length = i ∧ ∀ x ∈ ls, GoodCd x
def SP_l_codes (K : PySem.W.Frag) (Z : Adr) : Sp := fun vs H Q _ => ∃ (c m : Int), vs = [.int c, .int m] ∧ 0 ≤ m ∧ m ≤ 500 ∧ ∀ (l : Addr) (as : List Addr) (ls : List Cd) (H' : Hp), H l = none → Same H H' → H' l = some (.lst (as.map V.ref)) → TupsF cdV K H' as ls → (ls.length : Int) = m → (∀ x ∈ ls, GoodCd x) → Q (.ref l) H'
theorem ok_l_codes {f : Addr} {fd : FuncData} (F : Fun K "_law_codes" "_law_codes" s_l_codes f fd) (T : Txt K mg Z) {f_l_draw : Addr} {fd_l_draw : FuncData} (D_l_draw : Def K mg "_law_draw" s_l_draw ["_law_cell", "_law_k", "_law_span"] f_l_draw fd_l_draw) (G_l_draw : FnOk P w K mg base CX0 1 f_l_draw fd_l_draw ["_law_cell", "_law_k", "_law_span"] (SP_l_draw K Z)) : FnOk P w K mg base CX0 2 f fd ["_law_cell", "_law_many"] (SP_l_codes K Z) := by
  refine F.ok sc_l_codes (fun vs H Q E h => ?_) (fun cdv A outer s H vs Q E hr h => ?_)
  · obtain ⟨c, m, rfl, h0, h1, q⟩ := h
    rfl
  · obtain ⟨c, m, rfl, h0, h1, q⟩ := h
    refine ⟨_, pss_cons (ps_set (i := 2) sc_l_codes.nd rfl (Or.inl rfl) (pe_lst pa_nil)) (pss_cons (ps_for PassesOwn.never rfl (pi_range1 (by rfl) T.g_range (pa_cons (pv 1) pa_nil)) (pg_name (i := 3) sc_l_codes.nd rfl (Or.inl rfl)) (pss_cons (ps_set (i := 4) sc_l_codes.nd rfl (Or.inl rfl) (pe_op op_add pe_int (pe_call G_l_draw (hr.mono (by decide)) (by rfl) D_l_draw.m D_l_draw.F.kp D_l_draw.b .nil pass0 (pa_cons (pv 0) (pa_cons (pe_op op_mul pe_int (pv 3)) (pa_cons pe_int pa_nil)))))) (pss_one (ps_expr (pe_bm PySem.F.plainAttrs_list PySem.F.slot_list_append PySem.F.type_list_append mt_append (pv 2) (pa_cons (pe_tup (pa_cons (pv 4) (pa_cons (pe_op op_add pe_int (pe_op op_mod (pe_op op_add (pv 4) (pe_call G_l_draw (hr.mono (by decide)) (by rfl) D_l_draw.m D_l_draw.F.kp D_l_draw.b .nil pass0 (pa_cons (pv 0) (pa_cons (pe_op op_add (pe_op op_mul pe_int (pv 3)) pe_int) (pa_cons pe_int pa_nil))))) pe_int)) pa_nil))) pa_nil)))))) (pss_one (ps_ret (pv 2)))), ?_⟩
    walk_at "rd"
    refine ⟨by decide, fun l hl => ⟨by omega, by omega, ?_⟩⟩
    refine loop_range (iv_codes K c m l H) ⟨(Same.refl H).lay hl, [], [], _, _, rfl, upd_same, TupsF.nil, rfl, fun x hx => by cases hx⟩ ?_ ?_
    · rintro i σ H' hi ⟨s1, as, ls, t, u, rfl, hl', hT, hlen, hg⟩
      walk_at "rd"
      refine ⟨c, 2 * (0 + ↑i), 9, rfl, by omega, by omega, by omega, fun r1 h2 h3 => ?_⟩
      walk_at "rd"
      refine ⟨.inl ⟨rfl, _, SqL.of hl'⟩, c, 2 * (0 + ↑i) + 1, 8, rfl, by omega, by omega, by omega, fun r2 h4 h5 => ?_⟩
      walk_at "rd"
      refine ⟨by decide, fun p2 hp2 => ⟨_, upo hl' hp2, small1000 (by rw [List.length_map, hT.1]; omega), ?_⟩⟩
      have hl2 := upo (o := HO.tup [V.int (1 + r1), V.int (1 + (1 + r1 + r2) % 9)]) hl' hp2
      refine ⟨(s1.lay hp2).rewr hl, as ++ [p2], ls ++ [(1 + r1, 1 + (1 + r1 + r2) % 9)], _, _, rfl, ?_, ?_, by rw [List.length_append, hlen]; rfl, ?_⟩
      · rw [upd_same, List.map_append]; rfl
      · exact ((hT.same ((Same.refl H').lay hp2)).app (TupsF.one (SqT.of upd_same))).rew hl2
      · intro x hx
        rcases List.mem_append.mp hx with hx | hx
        · exact hg x hx
        · rw [List.mem_singleton] at hx
          subst hx
          refine ⟨⟨?_, ?_⟩, ⟨?_, ?_⟩, ?_⟩
          · show 1 ≤ 1 + r1; omega
          · show 1 + r1 ≤ 9; omega
          · show 1 ≤ 1 + (1 + r1 + r2) % 9; omega
          · show 1 + (1 + r1 + r2) % 9 ≤ 9; omega
          · show 1 + r1 ≠ 1 + (1 + r1 + r2) % 9; omega
    · rintro σ H' ⟨s1, as, ls, t, u, rfl, hl', hT, hlen, hg⟩
      walk_at "rd"
      exact q l as ls H' hl s1 hl' hT (by omega) hg
def SP_Yard_twin (K : PySem.W.Frag) (Z : Adr) : Sp := fun vs H Q _ => ∃ (y kn wh : Addr) (ks : List Str) (ws : List Int) (m : Int), vs = [.ref y] ∧ YardAt Z.Yard H y kn wh ks ws m ∧ ∀ (y' kn' wh' : Addr) (H' : Hp), H y' = none → H kn' = none → H wh' = none → kn' ≠ wh' → Same H H' → YardAt Z.Yard H' y' kn' wh' ks ws m → Q (.ref y') H'
theorem ok_Yard_twin {f : Addr} {fd : FuncData} (F : Fun K "twin" "Yard.twin" s_Yard_twin f fd) (T : Txt K mg Z) {f_Yard_init : Addr} {fd_Yard_init : FuncData} (D_Yard_init : IDef K Z.Yard "Yard.__init__" s_Yard_init ["self", "loads", "many"] f_Yard_init fd_Yard_init) (G_Yard_init : FnOk P w K mg base CX0 1 f_Yard_init fd_Yard_init ["self", "loads", "many"] (SP_Yard_init K Z)) : FnOk P w K mg base CX0 3 f fd ["self"] (SP_Yard_twin K Z) := by
  refine F.ok sc_Yard_twin (fun vs H Q E h => ?_) (fun cdv A outer s H vs Q E hr h => ?_)
  · obtain ⟨y, kn, wh, ks, ws, m, rfl, hy, q⟩ := h
    rfl
  · obtain ⟨y, kn, wh, ks, ws, m, rfl, hy, q⟩ := h
    refine ⟨_, pss_cons (ps_set (i := 1) sc_Yard_twin.nd rfl (Or.inl rfl) (pe_make D_Yard_init.M G_Yard_init (hr.mono (by decide)) (by rfl) T.m_Yard D_Yard_init.b .nil pass0 (pa_cons (pe_lst pa_nil) (pa_cons (pe_fld (pv 0) (by rfl)) pa_nil)))) (pss_cons (ps_fld (pv 1) (pe_callTy call_list_of (by rfl) T.g_list bo_list (pa_cons (pe_fld (pv 0) (by rfl)) pa_nil)) rfl) (pss_cons (ps_fld (pv 1) (pe_callTy call_list_of (by rfl) T.g_list bo_list (pa_cons (pe_fld (pv 0) (by rfl)) pa_nil)) rfl) (pss_one (ps_ret (pv 1))))), ?_⟩
    obtain ⟨⟨dy, hob⟩, hkn, hwh⟩ := id hy
    walk_at "rd"
    refine ⟨by decide, fun p0 hp0 => ⟨_, _, _, upo hob hp0, T.cl_Yard, T.na_Yard_many, _, rfl, ?_⟩⟩
    refine fun x dx hx hdx nxd => ?_
    have s0 := (Same.refl H).lay (o := HO.lst []) hp0
    have hx' : upd (upd H p0 (HO.lst [])) dx (.own x) x = none := by rw [upd_ne (Ne.symm nxd)]; exact hx
    refine ⟨x, dx, p0, [], m, rfl, upd_same, ⟨[], SqL.of (upo (upo upd_same hdx) hx'), Tups.nil⟩, by decide, fun kn0 wh0 H1 hkn0 hwh0 nkw kp hy1 => ⟨rfl, ?_⟩⟩
    have s1 := s0.trans (madeSame hx hdx kp)
    obtain ⟨⟨dx1, hob1⟩, hkn1, hwh1⟩ := id hy1
    have hxn : H x = none := s0.free hx
    clear kp hy1
    walk_at "rd"
    refine ⟨_, _, _, s1 _ _ hob, T.cl_Yard, T.na_Yard_kinds, _, rfl, ?_⟩
    walk_at "rd"
    refine ⟨_, .inl (SqL.of (s1 _ _ hkn)), fun k1 hk1 => ⟨_, _, _, upo hob1 hk1, T.cl_Yard, T.na_Yard_kinds, by show 3 < 1000; decide, ?_⟩⟩
    have nk1 : k1 ≠ x := fun z => by rw [z, hob1] at hk1; cases hk1
    have s2 : Same H (upd (upd H1 k1 (HO.lst (ks.map V.str))) x (HO.ins Z.Yard dx1 (putF "kinds" (.ref k1) [("kinds", V.ref kn0), ("where", V.ref wh0), ("many", V.int m)]))) := (s1.lay hk1).rewr hxn
    have hob2 : upd (upd H1 k1 (HO.lst (ks.map V.str))) x (HO.ins Z.Yard dx1 (putF "kinds" (.ref k1) [("kinds", V.ref kn0), ("where", V.ref wh0), ("many", V.int m)])) x = some (HO.ins Z.Yard dx1 [("kinds", V.ref k1), ("where", V.ref wh0), ("many", V.int m)]) := by rw [upd_same]; rfl
    have hk2 : upd (upd H1 k1 (HO.lst (ks.map V.str))) x (HO.ins Z.Yard dx1 (putF "kinds" (.ref k1) [("kinds", V.ref kn0), ("where", V.ref wh0), ("many", V.int m)])) k1 = some (HO.lst (ks.map V.str)) := by rw [upd_ne nk1, upd_same]
    generalize upd (upd H1 k1 (HO.lst (ks.map V.str))) x (HO.ins Z.Yard dx1 (putF "kinds" (.ref k1) [("kinds", V.ref kn0), ("where", V.ref wh0), ("many", V.int m)])) = H2 at *
    refine ⟨_, _, _, s2 _ _ hob, T.cl_Yard, T.na_Yard_where, _, rfl, ?_⟩
    walk_at "rd"
    refine ⟨_, .inl (SqL.of (s2 _ _ hwh)), fun w1 hw1 => ⟨_, _, _, upo hob2 hw1, T.cl_Yard, T.na_Yard_where, by show 3 < 1000; decide, ?_⟩⟩
    have nw1 : w1 ≠ x := fun z => by rw [z, hob2] at hw1; cases hw1
    have nkw1 : k1 ≠ w1 := ne_of_none hk2 hw1
    refine q x k1 w1 _ hxn (s1.free hk1) (s2.free hw1) nkw1 ((s2.lay hw1).rewr hxn) ⟨⟨dx1, by rw [upd_same]; rfl⟩, ?_, ?_⟩
    · rw [upd_ne nk1, upd_ne nkw1]; exact hk2
    · rw [upd_ne nw1, upd_same]
def SP_Bells_twin (K : PySem.W.Frag) (Z : Adr) : Sp := fun vs H Q _ => ∃ (b cs fl st : Addr) (ls : List Cd) (fs : List Bool) (e : Eng), vs = [.ref b] ∧ BellsAt Z.Bells K H b cs fl st ls fs e ∧ ls.length ≤ 1000 ∧ ∀ (b' cs' fl' : Addr) (H' : Hp), H b' = none → H cs' = none → H fl' = none → Same H H' → BellsAt Z.Bells K H' b' cs' fl' st ls fs e → Q (.ref b') H'
theorem ok_Bells_twin {f : Addr} {fd : FuncData} (F : Fun K "twin" "Bells.twin" s_Bells_twin f fd) (T : Txt K mg Z) {f_Bells_init : Addr} {fd_Bells_init : FuncData} (D_Bells_init : IDef K Z.Bells "Bells.__init__" s_Bells_init ["self", "codes"] f_Bells_init fd_Bells_init) (G_Bells_init : FnOk P w K mg base CX0 1 f_Bells_init fd_Bells_init ["self", "codes"] (SP_Bells_init K Z)) : FnOk P w K mg base CX0 3 f fd ["self"] (SP_Bells_twin K Z) := by
  refine F.ok sc_Bells_twin (fun vs H Q E h => ?_) (fun cdv A outer s H vs Q E hr h => ?_)
  · obtain ⟨b, cs, fl, st, ls, fs, e, rfl, hB, hn, q⟩ := h
    rfl
  · obtain ⟨b, cs, fl, st, ls, fs, e, rfl, hB, hn, q⟩ := h
    refine ⟨_, pss_cons (ps_set (i := 1) sc_Bells_twin.nd rfl (Or.inl rfl) (pe_make D_Bells_init.M G_Bells_init (hr.mono (by decide)) (by rfl) T.m_Bells D_Bells_init.b .nil pass0 (pa_cons (pe_fld (pv 0) (by rfl)) pa_nil))) (pss_cons (ps_fld (pv 1) (pe_callTy call_list_of (by rfl) T.g_list bo_list (pa_cons (pe_fld (pv 0) (by rfl)) pa_nil)) rfl) (pss_cons (ps_fld (pv 1) (pe_fld (pv 0) (by rfl)) rfl) (pss_one (ps_ret (pv 1))))), ?_⟩
    obtain ⟨⟨db, hob⟩, ⟨as, hcs, hT⟩, hfl, hst, nn, ln⟩ := id hB
    walk_at "rd"
    refine ⟨_, _, _, hob, T.cl_Bells, T.na_Bells_codes, _, rfl, ?_⟩
    refine fun x dx hx hdx nxd => ?_
    have hx' : upd H dx (.own x) x = none := by rw [upd_ne (Ne.symm nxd)]; exact hx
    refine ⟨x, dx, cs, ls, rfl, upd_same, hB.rows.same (((Same.refl H).lay hdx).lay hx'), hn, fun cs1 fl1 st1 H1 hcs1 hfl1 kp hB1 => ⟨rfl, ?_⟩⟩
    have s1 := madeSame hx hdx kp
    obtain ⟨⟨dx1, hob1⟩, ⟨as1, hc1, hT1⟩, hf1, _, nn1, ln1⟩ := id hB1
    clear kp
    walk_at "rd"
    refine ⟨_, _, _, s1 _ _ hob, T.cl_Bells, T.na_Bells_failed, _, rfl, ?_⟩
    walk_at "rd"
    refine ⟨_, .inl (SqL.of (s1 _ _ hfl)), fun f2 hf2 => ⟨_, _, _, upo hob1 hf2, T.cl_Bells, T.na_Bells_failed, by show 3 < 1000; decide, ?_⟩⟩
    have nf2 : f2 ≠ x := fun z => by rw [z, hob1] at hf2; cases hf2
    have ncf : cs1 ≠ f2 := ne_of_none hc1 hf2
    have ncx : cs1 ≠ x := fun z => by rw [z, hob1] at hc1; cases hc1
    have s2 : Same H (upd (upd H1 f2 (HO.lst (fs.map V.bl))) x (HO.ins Z.Bells dx1 (putF "failed" (.ref f2) [("codes", V.ref cs1), ("failed", V.ref fl1), ("state", V.ref st1)]))) := (s1.lay hf2).rewr hx
    have k2 : L2.Keeps x H1 (upd (upd H1 f2 (HO.lst (fs.map V.bl))) x (HO.ins Z.Bells dx1 (putF "failed" (.ref f2) [("codes", V.ref cs1), ("failed", V.ref fl1), ("state", V.ref st1)]))) := (Keeps.of ((Same.refl H1).lay hf2)).put
    have hob2 : upd (upd H1 f2 (HO.lst (fs.map V.bl))) x (HO.ins Z.Bells dx1 (putF "failed" (.ref f2) [("codes", V.ref cs1), ("failed", V.ref fl1), ("state", V.ref st1)])) x = some (HO.ins Z.Bells dx1 [("codes", V.ref cs1), ("failed", V.ref f2), ("state", V.ref st1)]) := by rw [upd_same]; rfl
    have hff : upd (upd H1 f2 (HO.lst (fs.map V.bl))) x (HO.ins Z.Bells dx1 (putF "failed" (.ref f2) [("codes", V.ref cs1), ("failed", V.ref fl1), ("state", V.ref st1)])) f2 = some (HO.lst (fs.map V.bl)) := by rw [upd_ne nf2, upd_same]
    generalize upd (upd H1 f2 (HO.lst (fs.map V.bl))) x (HO.ins Z.Bells dx1 (putF "failed" (.ref f2) [("codes", V.ref cs1), ("failed", V.ref fl1), ("state", V.ref st1)])) = H2 at *
    refine ⟨_, _, _, s2 _ _ hob, T.cl_Bells, T.na_Bells_state, _, rfl, ?_⟩
    walk_at "rd"
    refine ⟨_, _, _, hob2, T.cl_Bells, T.na_Bells_state, by show 3 < 1000; decide, ?_⟩
    have k3 : L2.Keeps x H2 (upd H2 x (HO.ins Z.Bells dx1 (putF "state" (.ref st) [("codes", V.ref cs1), ("failed", V.ref f2), ("state", V.ref st1)]))) := (Keeps.of (Same.refl H2)).put
    refine q x cs1 f2 _ hx (madeFree hcs1) (s1.free hf2) (s2.rewr hx) ⟨⟨dx1, by rw [upd_same]; rfl⟩, ⟨as1, k3 _ _ ncx (k2 _ _ ncx hc1), (hT1.keepI k2 hob1).keepI k3 hob2⟩, k3 _ _ nf2 hff, (s2.rewr hx).tup hst, ncf, ln⟩
def SP_Works_init (K : PySem.W.Frag) (Z : Adr) : Sp := fun vs H Q E => ∃ (x dx d c l : Addr) (ds : List Int) (ls : List Cd) (lds : List Ld) (slow fast : Int) (N : Addr → Prop), vs = [.ref x, .ref d, .ref c, .int slow, .int fast, .ref l] ∧ H x = some (.ins Z.Works dx []) ∧ SqL K H d (ds.map V.int) ∧ RowsAt cdV K H c ls ∧ LoadsAt K H l lds ∧ ds.length ≤ 1000 ∧ ls.length ≤ 1000 ∧ lds.length ≤ 1000 ∧ (∀ p, N p → ∃ ys, H p = some (.lst ys)) ∧
  (¬ Shaft ds → E (.ref Z.BadDepths) none H) ∧
  (Shaft ds → ¬ ((ls.length : Int) = (ds.length : Nat) ∧ ∀ x ∈ ls, GoodCd x) → E (.ref Z.BadCodes) none H) ∧
  (Shaft ds → ((ls.length : Int) = (ds.length : Nat) ∧ ∀ x ∈ ls, GoodCd x) → ¬ (1 ≤ slow ∧ slow ≤ fast ∧ fast ≤ 500) → E (.ref Z.BadSpeeds) none H) ∧
  (Shaft ds → ((ls.length : Int) = (ds.length : Nat) ∧ ∀ x ∈ ls, GoodCd x) → (1 ≤ slow ∧ slow ≤ fast ∧ fast ≤ 500) → ¬ (lds.length ≤ 30 ∧ ∀ x ∈ lds, GoodLd (ds.length : Nat) x) → E (.ref Z.BadLoads) none H) ∧
  (Shaft ds → ((ls.length : Int) = (ds.length : Nat) ∧ ∀ x ∈ ls, GoodCd x) → (1 ≤ slow ∧ slow ≤ fast ∧ fast ≤ 500) → (lds.length ≤ 30 ∧ ∀ x ∈ lds, GoodLd (ds.length : Nat) x) → ∀ bk rl H', Keeps x H H' → H rl = none → WAt (clZ Z) K H' x bk rl (cfgOf ds ls slow fast lds N) (snap0 ds ls lds) [] → Q .non H')
theorem ok_Works_init {f : Addr} {fd : FuncData} (F : Fun K "__init__" "Works.__init__" s_Works_init f fd) (T : Txt K mg Z) {f_check_depths : Addr} {fd_check_depths : FuncData} (D_check_depths : Def K mg "check_depths" s_check_depths ["depths"] f_check_depths fd_check_depths) (G_check_depths : FnOk P w K mg base (CXf P w) 1 f_check_depths fd_check_depths ["depths"] (SP_check_depths K Z)) {f_check_codes : Addr} {fd_check_codes : FuncData} (D_check_codes : Def K mg "check_codes" s_check_codes ["codes", "many"] f_check_codes fd_check_codes) (G_check_codes : FnOk P w K mg base (CXf P w) 2 f_check_codes fd_check_codes ["codes", "many"] (SP_check_codes K Z)) {f_check_speeds : Addr} {fd_check_speeds : FuncData} (D_check_speeds : Def K mg "check_speeds" s_check_speeds ["slow", "fast"] f_check_speeds fd_check_speeds) (G_check_speeds : FnOk P w K mg base (CXf P w) 1 f_check_speeds fd_check_speeds ["slow", "fast"] (SP_check_speeds K Z)) {f_check_loads : Addr} {fd_check_loads : FuncData} (D_check_loads : Def K mg "check_loads" s_check_loads ["loads", "many"] f_check_loads fd_check_loads) (G_check_loads : FnOk P w K mg base (CXf P w) 2 f_check_loads fd_check_loads ["loads", "many"] (SP_check_loads K Z)) {f_Standing_init : Addr} {fd_Standing_init : FuncData} (D_Standing_init : IDef K Z.Standing "Standing.__init__" s_Standing_init ["self", "place", "opened", "bells", "yard"] f_Standing_init fd_Standing_init) (G_Standing_init : FnOk P w K mg base CX0 1 f_Standing_init fd_Standing_init ["self", "place", "opened", "bells", "yard"] (SP_Standing_init K Z)) {f_Book_init : Addr} {fd_Book_init : FuncData} (D_Book_init : IDef K Z.Book "Book.__init__" s_Book_init ["self", "first", "most"] f_Book_init fd_Book_init) (G_Book_init : FnOk P w K mg base CX0 1 f_Book_init fd_Book_init ["self", "first", "most"] (SP_Book_init K Z)) {f_Bells_init : Addr} {fd_Bells_init : FuncData} (D_Bells_init : IDef K Z.Bells "Bells.__init__" s_Bells_init ["self", "codes"] f_Bells_init fd_Bells_init) (G_Bells_init : FnOk P w K mg base CX0 1 f_Bells_init fd_Bells_init ["self", "codes"] (SP_Bells_init K Z)) {f_Yard_init : Addr} {fd_Yard_init : FuncData} (D_Yard_init : IDef K Z.Yard "Yard.__init__" s_Yard_init ["self", "loads", "many"] f_Yard_init fd_Yard_init) (G_Yard_init : FnOk P w K mg base CX0 1 f_Yard_init fd_Yard_init ["self", "loads", "many"] (SP_Yard_init K Z)) : FnOk P w K mg base (CXf P w) 3 f fd ["self", "depths", "codes", "slow", "fast", "loads"] (SP_Works_init K Z) := by
  refine F.okF sc_Works_init (fun vs H Q E h => ?_) (fun cdv A outer s H vs Q E hr h => ?_)
  · obtain ⟨x, dx, d, c, l, ds, ls, lds, slow, fast, N, rfl, hx, hD, hC, hL, n1, n2, n3, hN, q1, q2, q3, q4, q5⟩ := h
    rfl
  · obtain ⟨x, dx, d, c, l, ds, ls, lds, slow, fast, N, rfl, hx, hD, hC, hL, n1, n2, n3, hN, q1, q2, q3, q4, q5⟩ := h
    refine ⟨_, pss_cons (ps_expr (pe_call G_check_depths (hr.mono (by decide)) (by rfl) D_check_depths.m D_check_depths.F.kp D_check_depths.b .nil passF (pa_cons (pv 1) pa_nil))) (pss_cons (ps_expr (pe_call G_check_codes (hr.mono (by decide)) (by rfl) D_check_codes.m D_check_codes.F.kp D_check_codes.b .nil passF (pa_cons (pv 2) (pa_cons (pe_callB call_len_seq (by rfl) T.g_len bo_len (pa_cons (pv 1) pa_nil)) pa_nil)))) (pss_cons (ps_expr (pe_call G_check_speeds (hr.mono (by decide)) (by rfl) D_check_speeds.m D_check_speeds.F.kp D_check_speeds.b .nil passF (pa_cons (pv 3) (pa_cons (pv 4) pa_nil)))) (pss_cons (ps_expr (pe_call G_check_loads (hr.mono (by decide)) (by rfl) D_check_loads.m D_check_loads.F.kp D_check_loads.b .nil passF (pa_cons (pv 5) (pa_cons (pe_callB call_len_seq (by rfl) T.g_len bo_len (pa_cons (pv 1) pa_nil)) pa_nil)))) (pss_cons (ps_fld (pv 0) (pe_callTy call_list_of (by rfl) T.g_list bo_list (pa_cons (pv 1) pa_nil)) rfl) (pss_cons (ps_fld (pv 0) (pv 3) rfl) (pss_cons (ps_fld (pv 0) (pv 4) rfl) (pss_cons (ps_fld (pv 0) (pe_lc ["kind", "level", "goal"] [none, none, none] (pi_list (pv 5)) (fun _ _ _ _ => (show PG _ _ (gTup K 3 _) from pg_tup (n := 3) rfl (pgs_cons (pg_name (i := 0) (show (["kind", "level", "goal"] : List Str).Nodup by decide +kernel) rfl (Or.inl rfl)) (pgs_cons (pg_name (i := 1) (show (["kind", "level", "goal"] : List Str).Nodup by decide +kernel) rfl (Or.inl rfl)) (pgs_cons (pg_name (i := 2) (show (["kind", "level", "goal"] : List Str).Nodup by decide +kernel) rfl (Or.inl rfl)) pgs_nil))))) (fun _ _ _ _ => pif_nil) (fun _ _ _ _ => (pv 2))) rfl) (pss_cons (ps_lc ["depth"] [none] (iy := 6) sc_Works_init.nd rfl rfl (pi_list (pv 1)) (fun _ _ _ _ => (pg_name (i := 0) (show (["depth"] : List Str).Nodup by decide +kernel) rfl (Or.inl rfl))) (fun _ _ _ _ => pif_nil) (fun _ _ _ _ => pe_bl)) (pss_cons (ps_set (i := 7) sc_Works_init.nd rfl (Or.inl rfl) (pe_make D_Standing_init.M G_Standing_init (hr.mono (by decide)) (by rfl) T.m_Standing D_Standing_init.b .nil pass0 (pa_cons (pe_ix ix_list (pv 1) pe_int (fun _ _ => rfl)) (pa_cons (pv 6) (pa_cons (pe_make D_Bells_init.M G_Bells_init (hr.mono (by decide)) (by rfl) T.m_Bells D_Bells_init.b .nil pass0 (pa_cons (pv 2) pa_nil)) (pa_cons (pe_make D_Yard_init.M G_Yard_init (hr.mono (by decide)) (by rfl) T.m_Yard D_Yard_init.b .nil pass0 (pa_cons (pv 5) (pa_cons (pe_callB call_len_seq (by rfl) T.g_len bo_len (pa_cons (pv 1) pa_nil)) pa_nil))) pa_nil)))))) (pss_one (ps_fld (pv 0) (pe_make D_Book_init.M G_Book_init (hr.mono (by decide)) (by rfl) T.m_Book D_Book_init.b .nil pass0 (pa_cons (pv 7) (pa_cons (pe_globV (by rfl) T.c_MOST_DEEDS) pa_nil))) rfl))))))))))), ?_⟩
    walk_at "rd"
    refine ⟨d, ds, rfl, hD, by omega, fun sh => ?_, q1⟩
    walk_at "rd"
    refine ⟨_, .inl hD, ?_⟩
    rw [List.length_map]
    refine ⟨c, ls, _, rfl, hC, fun h2 => ?_, q2 sh⟩
    walk_at "rd"
    refine ⟨_, _, rfl, ?_⟩
    by_cases h3 : 1 ≤ slow ∧ slow ≤ fast ∧ fast ≤ 500
    case neg => rw [if_neg h3]; exact q3 sh h2 h3
    rw [if_pos h3]
    walk_at "rd"
    refine ⟨_, .inl hD, ?_⟩
    rw [List.length_map]
    refine ⟨l, lds, _, rfl, hL, fun h4 => ?_, q4 sh h2 h3⟩
    replace q5 := q5 sh h2 h3 h4
    clear q1 q2 q3 q4
    walk_at "rd"
    refine ⟨_, .inl hD, fun dl hdl => ⟨_, _, _, upo hx hdl, T.cl_Works, T.na_Works_depths, by decide, _, _, _, upd_same, T.cl_Works, T.na_Works_slow, by show 1 < 1000; decide, _, _, _, upd_same, T.cl_Works, T.na_Works_fast, by show 2 < 1000; decide, ?_⟩⟩
    have ndx : dl ≠ x := fun z => by rw [z, hx] at hdl; cases hdl
    have k1 : L2.Keeps x H (upd (upd (upd (upd H dl (HO.lst (ds.map V.int))) x (HO.ins Z.Works dx (putF "depths" (.ref dl) []))) x (HO.ins Z.Works dx (putF "slow" (.int slow) (putF "depths" (.ref dl) [])))) x (HO.ins Z.Works dx (putF "fast" (.int fast) (putF "slow" (.int slow) (putF "depths" (.ref dl) []))))) := (((Keeps.of ((Same.refl H).lay hdl)).put).put).put
    have hx1 : upd (upd (upd (upd H dl (HO.lst (ds.map V.int))) x (HO.ins Z.Works dx (putF "depths" (.ref dl) []))) x (HO.ins Z.Works dx (putF "slow" (.int slow) (putF "depths" (.ref dl) [])))) x (HO.ins Z.Works dx (putF "fast" (.int fast) (putF "slow" (.int slow) (putF "depths" (.ref dl) [])))) x = some (HO.ins Z.Works dx [("depths", .ref dl), ("slow", .int slow), ("fast", .int fast)]) := by rw [upd_same]; rfl
    have hd1 : upd (upd (upd (upd H dl (HO.lst (ds.map V.int))) x (HO.ins Z.Works dx (putF "depths" (.ref dl) []))) x (HO.ins Z.Works dx (putF "slow" (.int slow) (putF "depths" (.ref dl) [])))) x (HO.ins Z.Works dx (putF "fast" (.int fast) (putF "slow" (.int slow) (putF "depths" (.ref dl) [])))) dl = some (HO.lst (ds.map V.int)) := by rw [upd_ne ndx, upd_ne ndx, upd_ne ndx, upd_same]
    generalize upd (upd (upd (upd H dl (HO.lst (ds.map V.int))) x (HO.ins Z.Works dx (putF "depths" (.ref dl) []))) x (HO.ins Z.Works dx (putF "slow" (.int slow) (putF "depths" (.ref dl) [])))) x (HO.ins Z.Works dx (putF "fast" (.int fast) (putF "slow" (.int slow) (putF "depths" (.ref dl) [])))) = H1 at *
    obtain ⟨asL, hLs, hLt⟩ := id hL
    refine ⟨⟨_, hLs.keepI k1 hx⟩, cj_loads (fun y => .int y.2.2) (hL.keepI k1 hx) (by rw [sizeLine_eq]; omega) rfl (fun y _ M hM => by walk_at "rd"; exact hM) fun gl hgl => ?_⟩
    walk_at "rd"
    refine ⟨_, _, _, upo hx1 hgl, T.cl_Works, T.na_Works_goals, by show 3 < 1000; decide, ?_⟩
    have ngx : gl ≠ x := fun z => by rw [z, hx1] at hgl; cases hgl
    have ngd : dl ≠ gl := ne_of_none hd1 hgl
    have k2 : L2.Keeps x H1 (upd (upd H1 gl (HO.lst (lds.map fun y => V.int y.2.2))) x (HO.ins Z.Works dx (putF "goals" (.ref gl) [("depths", .ref dl), ("slow", .int slow), ("fast", .int fast)]))) := (Keeps.of ((Same.refl H1).lay hgl)).put
    have hx2 : upd (upd H1 gl (HO.lst (lds.map fun y => V.int y.2.2))) x (HO.ins Z.Works dx (putF "goals" (.ref gl) [("depths", .ref dl), ("slow", .int slow), ("fast", .int fast)])) x = some (HO.ins Z.Works dx [("depths", .ref dl), ("slow", .int slow), ("fast", .int fast), ("goals", .ref gl)]) := by rw [upd_same]; rfl
    have hg2 : upd (upd H1 gl (HO.lst (lds.map fun y => V.int y.2.2))) x (HO.ins Z.Works dx (putF "goals" (.ref gl) [("depths", .ref dl), ("slow", .int slow), ("fast", .int fast)])) gl = some (HO.lst ((lds.map (·.2.2)).map V.int)) := by rw [upd_ne ngx, upd_same, List.map_map]; rfl
    generalize upd (upd H1 gl (HO.lst (lds.map fun y => V.int y.2.2))) x (HO.ins Z.Works dx (putF "goals" (.ref gl) [("depths", .ref dl), ("slow", .int slow), ("fast", .int fast)])) = H2 at *
    have k12 := k1.trans k2
    have hd2 := k2 _ _ ndx hd1
    refine ⟨⟨_, hD.keepI k12 hx⟩, ?_⟩
    refine cj_list_map (fun _ => true) (fun _ => V.bl false) (hD.keepI k12 hx) (by rw [List.length_map, sizeLine_eq]; omega) rfl (fun y _ M hM => by walk_at "rd"; exact hM) (fun y _ _ M hM => by walk_at "rd"; exact hM) fun sh1 hsh1 => ?_
    have es : ((ds.map V.int).filter fun _ => true).map (fun _ => V.bl false) = (ds.map fun _ => false).map V.bl := by
      rw [List.filter_eq_self.mpr (by simp), List.map_map, List.map_map]; rfl
    rw [es]
    have f3 := (Same.refl H2).lay (o := HO.lst ((ds.map fun _ => false).map V.bl)) hsh1
    have hs3 : upd H2 sh1 (HO.lst ((ds.map fun _ => false).map V.bl)) sh1 = some (HO.lst ((ds.map fun _ => false).map V.bl)) := upd_same
    generalize upd H2 sh1 (HO.lst ((ds.map fun _ => false).map V.bl)) = H3 at *
    have k13 : L2.Keeps x H H3 := k12.trans (Keeps.of f3)
    have sl2 := sh.l2
    walk_at "rd"
    refine ⟨_, hD.keepI k13 hx, _, atI_int (k := 0) (by omega) (by omega), ?_⟩
    walk_at "rd"
    refine fun b db hb hdb nbd => ?_
    have hb' : upd H3 db (.own b) b = none := by rw [upd_ne (Ne.symm nbd)]; exact hb
    refine ⟨b, db, c, ls, rfl, upd_same, (hC.keepI k13 hx).same (((Same.refl H3).lay hdb).lay hb'), n2, fun cs fl st H4 hcs hfl kp hB => ⟨rfl, ?_⟩⟩
    have f4 := madeSame hb hdb kp
    have fcs := madeFree hcs
    have ffl := madeFree hfl
    clear kp hcs hfl
    have f34 := f3.trans f4
    have k14 : L2.Keeps x H H4 := k13.trans (Keeps.of f4)
    walk_at "rd"
    refine ⟨_, .inl (hD.keepI k14 hx), ?_⟩
    rw [List.length_map]
    refine fun y dy hy hdy nyd => ?_
    have hy' : upd H4 dy (.own y) y = none := by rw [upd_ne (Ne.symm nyd)]; exact hy
    refine ⟨y, dy, l, lds, _, rfl, upd_same, (hL.keepI k14 hx).same (((Same.refl H4).lay hdy).lay hy'), n3, fun kn wh H5 hkn hwh nkw kp hY => ⟨rfl, ?_⟩⟩
    have f5 := madeSame hy hdy kp
    have fkn := madeFree hkn
    have fwh := madeFree hwh
    clear kp hkn hwh
    walk_at "rd"
    refine fun s ds1 hs hds1 nsd => ?_
    have hs' : upd H5 ds1 (.own s) s = none := by rw [upd_ne (Ne.symm nsd)]; exact hs
    refine ⟨s, ds1, sh1, b, y, ds.getD 0 0, ds.map fun _ => false, rfl, upd_same, (((Same.refl H5).lay hds1).lay hs').seq (SqL.of (f5 _ _ (f4 _ _ hs3))), fun ol H6 hol kp hob6 hol6 => ⟨rfl, ?_⟩⟩
    have f6 := madeSame hs hds1 kp
    have fol := madeFree hol
    clear kp hol
    walk_at "rd"
    refine fun bk dbk hbk hdbk nbk => ?_
    refine ⟨bk, dbk, s, rfl, upd_same, fun rl H7 hrl kp hob7 hrl7 => ⟨rfl, ?_⟩⟩
    have f7 := madeSame hbk hdbk kp
    have frl := madeFree hrl
    clear kp hrl
    have f26 := (f3.trans f4).trans (f5.trans f6)
    have f27 := f26.trans f7
    have hx7 := f27 _ _ hx2
    walk_at "rd"
    refine ⟨_, _, _, hx7, T.cl_Works, T.na_Works_log, by show 4 < 1000; decide, ?_⟩
    have k8 : L2.Keeps x H7 (upd H7 x (HO.ins Z.Works dx (putF "log" (.ref bk) [("depths", .ref dl), ("slow", .int slow), ("fast", .int fast), ("goals", .ref gl)]))) := (Keeps.of (Same.refl H7)).put
    have hx8 : upd H7 x (HO.ins Z.Works dx (putF "log" (.ref bk) [("depths", .ref dl), ("slow", .int slow), ("fast", .int fast), ("goals", .ref gl)])) x = some (HO.ins Z.Works dx [("depths", .ref dl), ("slow", .int slow), ("fast", .int fast), ("goals", .ref gl), ("log", .ref bk)]) := by rw [upd_same]; rfl
    generalize upd H7 x (HO.ins Z.Works dx (putF "log" (.ref bk) [("depths", .ref dl), ("slow", .int slow), ("fast", .int fast), ("goals", .ref gl)])) = H8 at *
    have frx : ∀ z, H6 z = none → H z = none := fun z hz => by
      by_cases e : z = x
      · subst e; rw [f26 _ _ hx2] at hz; cases hz
      · exact k12.free e (f26.free hz)
    obtain ⟨_, ⟨asc, oc4, _⟩, of4, _, ncf, _⟩ := id hB
    obtain ⟨_, okn5, owh5⟩ := id hY
    have hsx : s ≠ x := fun z => by rw [z] at hs; rw [f5 _ _ (f34 _ _ hx2)] at hs; cases hs
    have hbx : b ≠ x := fun z => by rw [z] at hb; rw [f3 _ _ hx2] at hb; cases hb
    have hyx : y ≠ x := fun z => by rw [z] at hy; rw [f34 _ _ hx2] at hy; cases hy
    have hbkx : bk ≠ x := fun z => by rw [z] at hbk; rw [f26 _ _ hx2] at hbk; cases hbk
    have f46 := f5.trans f6
    have hN6 : ∀ p, N p → ∃ ys, H6 p = some (.lst ys) := fun p hp => by
      obtain ⟨ys, e⟩ := hN p hp
      exact ⟨ys, f26 _ _ (k12 _ _ (fun z => by rw [z, hx] at e; cases e) e)⟩
    have hNn : ∀ p, N p → ∀ z, H z = none → z ≠ p := fun p hp z hz e => by
      obtain ⟨ys, e'⟩ := hN p hp
      rw [← e, hz] at e'; cases e'
    have fr3 : ∀ z, z ≠ x → H3 z = none → H z = none := fun z e hz => k13.free e hz
    have nx3 : ∀ z, H3 z = none → z ≠ x := fun z hz e => by rw [e, f3 _ _ hx2] at hz; cases hz
    have gcs := fr3 cs (nx3 cs fcs) fcs
    have gfl := fr3 fl (nx3 fl ffl) ffl
    have gkn := fr3 kn (nx3 kn (f4.free fkn)) (f4.free fkn)
    have gwh := fr3 wh (nx3 wh (f4.free fwh)) (f4.free fwh)
    have gol := fr3 ol (nx3 ol (f4.free (f5.free fol))) (f4.free (f5.free fol))
    have cs5 := f5 _ _ oc4
    have fl5 := f5 _ _ of4
    have hst : StandX (clZ Z) K H7 rl (cfgOf ds ls slow fast lds N) s ⟨ds1, ol, b, cs, fl, st, y, kn, wh⟩ (snap0 ds ls lds) :=
      ⟨f7 _ _ hob6, f7 _ _ hol6, ((hB.same f5).same f6).same f7, (hY.same f6).same f7,
       ⟨ne_of_none hol6 frl, ne_of_none (f6 _ _ cs5) frl, ne_of_none (f6 _ _ fl5) frl, ne_of_none (f6 _ _ okn5) frl, ne_of_none (f6 _ _ owh5) frl,
        ne_of_none cs5 fol, ne_of_none fl5 fol, ne_of_none okn5 fol, ne_of_none owh5 fol,
        (ne_of_none fl5 fol).symm, (ne_of_none of4 fkn).symm, (ne_of_none of4 fwh).symm,
        (ne_of_none owh5 fol).symm, ne_of_none oc4 fwh, ne_of_none of4 fwh, nkw⟩,
       ⟨fun p hp => by obtain ⟨ys, e⟩ := hN6 p hp; exact ⟨ys, f7 _ _ e⟩, fun p hp => hNn p hp rl (frx rl frl), fun p hp => hNn p hp ol gol, fun p hp => hNn p hp cs gcs, fun p hp => hNn p hp fl gfl, fun p hp => hNn p hp kn gkn, fun p hp => hNn p hp wh gwh⟩⟩
    have hst8 := hst.keepI k8 hx7 hsx hbx hyx
    have nrx : rl ≠ x := fun z => by rw [z] at frl; rw [f26 _ _ hx2] at frl; cases frl
    refine q5 bk rl H8 ((k12.trans (Keeps.of f27)).trans k8) (frx rl frl) ⟨⟨dx, dl, gl, hx8, k8 _ _ ndx (f27 _ _ hd2), k8 _ _ ngx (f27 _ _ hg2), ne_of_none (f26 _ _ hd2) frl, ne_of_none (f26 _ _ hg2) frl, fun p hp => hNn p hp dl hdl, fun p hp => hNn p hp gl (k1.free ngx hgl)⟩, ⟨dbk, s, k8 _ _ hbkx hob7, hst8.at⟩, [], k8 _ _ nrx hrl7, rfl, fun i a r e => by simp at e⟩
/-- what a deed at the works leads to -/
def DoneW (Z : Adr) (K : PySem.W.Frag) (H : Hp) (w bk rl : Addr) (g : Cfg) (n0 : Snap) (rs : List Row) (d : Dd) (Q : VK) (E : XK) : Prop :=
  (300 ≤ rs.length → ∀ H', Same H H' → E (.ref Z.BookFull) none H') ∧ (rs.length < 300 → ∀ H', Keeps rl H H' → WAt (clZ Z) K H' w bk rl g n0 (rs ++ [rowOf g n0 rs d]) → Q (.int (nowF rs + ticksD g (lastSn n0 rs) d)) H')
theorem DoneW.same {Z : Adr} {K : PySem.W.Frag} {H H1 : Hp} {w bk rl : Addr} {g : Cfg} {n0 : Snap} {rs : List Row} {d : Dd} {Q : VK} {E : XK} (h : DoneW Z K H w bk rl g n0 rs d Q E) (s : Same H H1) : DoneW Z K H1 w bk rl g n0 rs d Q E :=
  ⟨fun a H' s' => h.1 a H' (s.trans s'), fun a H' k => h.2 a H' ((Keeps.of s).trans k)⟩
def SP_Works_write (K : PySem.W.Frag) (Z : Adr) : Sp := fun vs H Q E => ∃ (w bk rl : Addr) (g : Cfg) (n0 : Snap) (rs : List Row) (dd s : Addr) (tk : Int) (dv : List V) (n : Snap), vs = [.ref w, .ref dd, .int tk, .ref s] ∧ WAt (clZ Z) K H w bk rl g n0 rs ∧ SqT K H dd dv ∧ StandAt (clZ Z) K H rl g s n ∧ g.ks.length = n.ws.length ∧ (300 ≤ rs.length → ∀ H', Same H H' → E (.ref Z.BookFull) none H') ∧ (rs.length < 300 → ∀ H', Keeps rl H H' → WAt (clZ Z) K H' w bk rl g n0 (rs ++ [⟨nowF rs, nowF rs + tk, dv, speedF g n, n⟩]) → Q (.int (nowF rs + tk)) H')
theorem ok_Works_write {f : Addr} {fd : FuncData} (F : Fun K "write" "Works.write" s_Works_write f fd) (T : Txt K mg Z) {f_Book_write : Addr} {fd_Book_write : FuncData} (D_Book_write : MDef K Z.Book "write" "Book.write" s_Book_write ["self", "deed", "ticks", "speed", "standing"] f_Book_write fd_Book_write) (G_Book_write : FnOk P w K mg base (CXf P w) 2 f_Book_write fd_Book_write ["self", "deed", "ticks", "speed", "standing"] (SP_Book_write K Z)) {f_Works_now : Addr} {fd_Works_now : FuncData} (D_Works_now : MDef K Z.Works "now" "Works.now" s_Works_now ["self"] f_Works_now fd_Works_now) (G_Works_now : FnOk P w K mg base CX0 2 f_Works_now fd_Works_now ["self"] (SP_Works_now K Z)) {f_Works_speed_with : Addr} {fd_Works_speed_with : FuncData} (D_Works_speed_with : MDef K Z.Works "speed_with" "Works.speed_with" s_Works_speed_with ["self", "standing"] f_Works_speed_with fd_Works_speed_with) (G_Works_speed_with : FnOk P w K mg base CX0 2 f_Works_speed_with fd_Works_speed_with ["self", "standing"] (SP_Works_speed_with K Z)) : FnOk P w K mg base (CXf P w) 3 f fd ["self", "deed", "ticks", "standing"] (SP_Works_write K Z) := by
  refine F.okF sc_Works_write (fun vs H Q E h => ?_) (fun cdv A outer s H vs Q E hr h => ?_)
  · obtain ⟨w, bk, rl, g, n0, rs, dd, s0, tk, dv, n, rfl, hW, hD, hS, hl, q1, q2⟩ := h
    rfl
  · obtain ⟨w, bk, rl, g, n0, rs, dd, s0, tk, dv, n, rfl, hW, hD, hS, hl, q1, q2⟩ := h
    refine ⟨_, pss_cons (ps_expr (pe_meth (pe_fld (pv 0) (by rfl)) T.cl_Book D_Book_write.M G_Book_write (hr.mono (by decide)) D_Book_write.b .nil passF (pa_cons (pv 1) (pa_cons (pv 2) (pa_cons (pe_meth (pv 0) T.cl_Works D_Works_speed_with.M G_Works_speed_with (hr.mono (by decide)) D_Works_speed_with.b .nil pass0 (pa_cons (pv 3) pa_nil)) (pa_cons (pv 3) pa_nil)))))) (pss_one (ps_ret (pe_meth0 (pv 0) T.cl_Works D_Works_now.M G_Works_now (hr.mono (by decide)) D_Works_now.b .nil pass0))), ?_⟩
    obtain ⟨⟨dx, dl, gl, hob, hdl, hgl, n1, n2⟩, hB⟩ := id hW
    obtain ⟨⟨db, f0, hbo, hF⟩, as, hrl, hR⟩ := id hB
    walk_at "rd"
    refine ⟨_, _, _, hob, T.cl_Works, T.na_Works_log, _, rfl, ?_⟩
    walk_at "rd"
    refine ⟨_, _, hbo, rfl, _, _, hob, rfl, _, _, _, _, _, _, _, _, rfl, hW, hS, hl, fun H1 s1 => ?_⟩
    walk_at "rd"
    refine ⟨bk, rl, dd, s0, g, n0, n, rs, tk, speedF g n, dv, rfl, hB.same s1, s1.tup hD, hS.same s1, fun h => q1 h H1 s1, fun h H2 k2 hB2 => ?_⟩
    walk_at "rd"
    have k1 : L2.Keeps rl H H2 := (Keeps.of s1).trans k2
    have hW2 : WAt (clZ Z) K H2 w bk rl g n0 _ := (hW.same s1).keep k2 (s1 _ _ hrl) hB2
    obtain ⟨dx2, _, _, hob2, _⟩ := id hW2.ob
    refine ⟨_, _, hob2, rfl, _, _, _, _, _, _, rfl, hW2, ?_⟩
    rw [nowF_last]
    exact q2 h H2 k1 hW2
theorem atI_pick3 {x y z i : Int} (h0 : 0 ≤ i) (h2 : i ≤ 2) : atI [V.int x, V.int y, V.int z] i = some (.int (if i = 0 then x else if i = 1 then y else z)) := by
  rcases (by omega : i = 0 ∨ i = 1 ∨ i = 2) with rfl | rfl | rfl <;> rfl
def SP_l_shaft (K : PySem.W.Frag) (Z : Adr) : Sp := fun vs H Q _ => ∃ (a : Addr) (ns : List Int), vs = [.ref a] ∧ SqL K H a (ns.map V.int) ∧ ∀ (p dl cl : Addr) (ds : List Int) (as : List Addr) (ls : List Cd) (slow fast : Int) (H' : Hp), Same H H' → H p = none → H dl = none → H cl = none → dl ≠ cl → H' p = some (.lst [.ref dl, .ref cl, .int slow, .int fast]) → H' dl = some (.lst (ds.map V.int)) → Shaft ds → H' cl = some (.lst (as.map V.ref)) → TupsF cdV K H' as ls → ls.length = ds.length → (∀ x ∈ ls, GoodCd x) → (1 ≤ slow ∧ slow ≤ fast ∧ fast ≤ 500) → Q (.ref p) H'
theorem ok_l_shaft {f : Addr} {fd : FuncData} (F : Fun K "_law_shaft" "_law_shaft" s_l_shaft f fd) (T : Txt K mg Z) {f_l_depths : Addr} {fd_l_depths : FuncData} (D_l_depths : Def K mg "_law_depths" s_l_depths ["_law_cell"] f_l_depths fd_l_depths) (G_l_depths : FnOk P w K mg base CX0 2 f_l_depths fd_l_depths ["_law_cell"] (SP_l_depths K Z)) {f_l_codes : Addr} {fd_l_codes : FuncData} (D_l_codes : Def K mg "_law_codes" s_l_codes ["_law_cell", "_law_many"] f_l_codes fd_l_codes) (G_l_codes : FnOk P w K mg base CX0 2 f_l_codes fd_l_codes ["_law_cell", "_law_many"] (SP_l_codes K Z)) {f_l_at : Addr} {fd_l_at : FuncData} (D_l_at : Def K mg "_law_at" s_l_at ["_law_script", "_law_k"] f_l_at fd_l_at) (G_l_at : FnOk P w K mg base CX0 1 f_l_at fd_l_at ["_law_script", "_law_k"] (SP_l_at K Z)) {f_l_draw : Addr} {fd_l_draw : FuncData} (D_l_draw : Def K mg "_law_draw" s_l_draw ["_law_cell", "_law_k", "_law_span"] f_l_draw fd_l_draw) (G_l_draw : FnOk P w K mg base CX0 1 f_l_draw fd_l_draw ["_law_cell", "_law_k", "_law_span"] (SP_l_draw K Z)) : FnOk P w K mg base CX0 3 f fd ["_law_script"] (SP_l_shaft K Z) := by
  refine F.ok sc_l_shaft (fun vs H Q E h => ?_) (fun cdv A outer s H vs Q E hr h => ?_)
  · obtain ⟨a, ns, rfl, hS, q⟩ := h
    rfl
  · obtain ⟨a, ns, rfl, hS, q⟩ := h
    obtain ⟨t1, h1, k1⟩ : ∃ t, PSs (cxOf CX0 P w K mg base ["_law_script", "_law_depths_here", "_law_codes_here", "_law_cell", "_law_slow", "_law_fast"] "_law_shaft" (defScope s_l_shaft) f cdv A outer s H E).nox ((defBody s_l_shaft).drop 4) t ∧ ∀ (dl cl : Addr) (ds : List Int) (as : List Addr) (ls : List Cd) (c slow : Int) (H1 : Hp), Same H H1 → H dl = none → H cl = none → dl ≠ cl → H1 dl = some (.lst (ds.map V.int)) → Shaft ds → H1 cl = some (.lst (as.map V.ref)) → TupsF cdV K H1 as ls → ls.length = ds.length → (∀ x ∈ ls, GoodCd x) → 1 ≤ slow → slow ≤ 500 → t ({ nx := fun _ H2 => Q .non H2, rt := Q } : Ends) [some (.ref a), some (.ref dl), some (.ref cl), some (.int c), some (.int slow), none] H1 := by
      refine ⟨_, pss_cons (ps_if (pt_cmpR op_eq (pe_call G_l_draw (hr.mono (by decide)) (by rfl) D_l_draw.m D_l_draw.F.kp D_l_draw.b .nil pass0 (pa_cons (pv 3) (pa_cons pe_int (pa_cons pe_int pa_nil)))) pe_int (nomark _)) (pss_one (ps_set (i := 4) sc_l_shaft.nd rfl (Or.inl rfl) pe_int)) (pss_nil)) (pss_cons (ps_set (i := 5) sc_l_shaft.nd rfl (Or.inl rfl) (pe_ix ix_list (pe_lst (pa_cons (pv 4) (pa_cons pe_int (pa_cons (pe_op op_add (pv 4) (pe_call G_l_draw (hr.mono (by decide)) (by rfl) D_l_draw.m D_l_draw.F.kp D_l_draw.b .nil pass0 (pa_cons (pv 3) (pa_cons pe_int (pa_cons (pe_op op_sub pe_int (pv 4)) pa_nil))))) pa_nil)))) (pe_callB (call_min2 rfl) (by rfl) T.g_min bo_min (pa_cons pe_int (pa_cons (pe_call G_l_draw (hr.mono (by decide)) (by rfl) D_l_draw.m D_l_draw.F.kp D_l_draw.b .nil pass0 (pa_cons (pv 3) (pa_cons pe_int (pa_cons pe_int pa_nil)))) pa_nil))) (fun _ _ => rfl))) (pss_one (ps_ret (pe_lst (pa_cons (pv 1) (pa_cons (pv 2) (pa_cons (pv 4) (pa_cons (pv 5) pa_nil)))))))), ?_⟩
      intro dl cl ds as ls c slow H1 s1 fd fc ndc hdl hsh hcl hT hlen hg h1 h5
      walk_at "rd"
      refine ⟨c, 4, 16, rfl, by omega, by omega, by omega, fun r4 h40 h41 => ?_⟩
      walk_at "rd"
      split
      all_goals
        refine ⟨c, 2, _, rfl, by omega, by omega, by omega, fun r2 h20 h21 => ⟨_, rfl, by decide, fun p1 hp1 => ⟨c, 3, 8, rfl, by omega, by omega, by omega, fun r3 h30 h31 => ?_⟩⟩⟩
        walk_at "rd"
        refine ⟨_, SqL.of upd_same, _, atI_pick3 (by split <;> omega) (by split <;> omega), by decide, fun p2 hp2 => ?_⟩
        refine q p2 dl cl ds as ls _ _ _ (s1.trans (((Same.refl H1).lay hp1).lay hp2)) (s1.free (upn hp2)) fd fc ndc upd_same (upo (upo hdl hp1) hp2) hsh (upo (upo hcl hp1) hp2) (hT.same (((Same.refl H1).lay hp1).lay hp2)) hlen hg ⟨by omega, ?_, ?_⟩
        · (repeat' split) <;> omega
        · (repeat' split) <;> omega
    refine ⟨_, pss_cons (ps_set (i := 1) sc_l_shaft.nd rfl (Or.inl rfl) (pe_call G_l_depths (hr.mono (by decide)) (by rfl) D_l_depths.m D_l_depths.F.kp D_l_depths.b .nil pass0 (pa_cons (pe_call G_l_at (hr.mono (by decide)) (by rfl) D_l_at.m D_l_at.F.kp D_l_at.b .nil pass0 (pa_cons (pv 0) (pa_cons pe_int pa_nil))) pa_nil))) (pss_cons (ps_set (i := 2) sc_l_shaft.nd rfl (Or.inl rfl) (pe_call G_l_codes (hr.mono (by decide)) (by rfl) D_l_codes.m D_l_codes.F.kp D_l_codes.b .nil pass0 (pa_cons (pe_call G_l_at (hr.mono (by decide)) (by rfl) D_l_at.m D_l_at.F.kp D_l_at.b .nil pass0 (pa_cons (pv 0) (pa_cons pe_int pa_nil))) (pa_cons (pe_callB call_len_seq (by rfl) T.g_len bo_len (pa_cons (pv 1) pa_nil)) pa_nil)))) (pss_cons (ps_set (i := 3) sc_l_shaft.nd rfl (Or.inl rfl) (pe_call G_l_at (hr.mono (by decide)) (by rfl) D_l_at.m D_l_at.F.kp D_l_at.b .nil pass0 (pa_cons (pv 0) (pa_cons pe_int pa_nil)))) (pss_cons (ps_set (i := 4) sc_l_shaft.nd rfl (Or.inl rfl) (pe_op op_add pe_int (pe_call G_l_draw (hr.mono (by decide)) (by rfl) D_l_draw.m D_l_draw.F.kp D_l_draw.b .nil pass0 (pa_cons (pv 3) (pa_cons pe_int (pa_cons (pe_ix ix_list (pe_lst (pa_cons pe_int (pa_cons pe_int pa_nil))) (pe_call G_l_draw (hr.mono (by decide)) (by rfl) D_l_draw.m D_l_draw.F.kp D_l_draw.b .nil pass0 (pa_cons (pv 3) (pa_cons pe_int (pa_cons pe_int pa_nil)))) (fun _ _ => rfl)) pa_nil)))))) (h1)))), ?_⟩
    walk_at "rd"
    refine ⟨a, ns, 1, rfl, hS, by omega, ?_⟩
    walk_at "rd"
    refine ⟨_, rfl, fun dl ds H1 hdn s1 hdl hsh => ?_⟩
    have l2 := hsh.l2
    have l6 := hsh.l6
    walk_at "rd"
    refine ⟨a, ns, 2, rfl, s1.seq hS, by omega, ?_⟩
    walk_at "rd"
    refine ⟨_, .inl (SqL.of hdl), ?_⟩
    rw [List.length_map]
    refine ⟨_, _, rfl, by omega, by omega, fun cl as ls H2 hcn s2 hcl hT hlen hg => ?_⟩
    have ndc : dl ≠ cl := ne_of_none hdl hcn
    walk_at "rd"
    refine ⟨a, ns, 3, rfl, (s1.trans s2).seq hS, by omega, ?_⟩
    walk_at "rd"
    refine ⟨by decide, fun p hp => ⟨_, 0, 2, rfl, by omega, by omega, by omega, fun r0 h00 h01 => ?_⟩⟩
    have e0 : ∃ m : Int, (m = 30 ∨ m = 500) ∧ atI [V.int 30, V.int 500] r0 = some (.int m) := atI_two (x := 30) (y := 500) (by omega)
    obtain ⟨m, hm, em⟩ := e0
    walk_at "rd"
    refine ⟨_, SqL.of upd_same, _, em, _, 1, m, rfl, by omega, by omega, by omega, fun r1 h10 h11 => ?_⟩
    walk_at "rd"
    have sx := (Same.refl H2).lay (o := HO.lst [V.int 30, V.int 500]) hp
    exact k1 dl cl ds as ls _ _ _ ((s1.trans s2).trans sx) hdn (s1.free hcn) ndc (sx _ _ (s2 _ _ hdl)) hsh (sx _ _ hcl) (hT.same sx) (by omega) hg (by omega) (by omega)
def SP_Standing_twin (K : PySem.W.Frag) (Z : Adr) : Sp := fun vs H Q _ => ∃ (s rl : Addr) (g : Cfg) (n : Snap) (ys : List V), vs = [.ref s] ∧ StandAt (clZ Z) K H rl g s n ∧ H rl = some (.lst ys) ∧ g.ls.length ≤ 1000 ∧ ∀ (s' : Addr) (A : SA) (H' : Hp), Same H H' → H s' = none → H A.ol = none → H A.b = none → H A.fl = none → H A.y = none → H A.wh = none → StandX (clZ Z) K H' rl g s' A n → Q (.ref s') H'
theorem ok_Standing_twin {f : Addr} {fd : FuncData} (F : Fun K "twin" "Standing.twin" s_Standing_twin f fd) (T : Txt K mg Z) {f_Standing_init : Addr} {fd_Standing_init : FuncData} (D_Standing_init : IDef K Z.Standing "Standing.__init__" s_Standing_init ["self", "place", "opened", "bells", "yard"] f_Standing_init fd_Standing_init) (G_Standing_init : FnOk P w K mg base CX0 1 f_Standing_init fd_Standing_init ["self", "place", "opened", "bells", "yard"] (SP_Standing_init K Z)) {f_Bells_twin : Addr} {fd_Bells_twin : FuncData} (D_Bells_twin : MDef K Z.Bells "twin" "Bells.twin" s_Bells_twin ["self"] f_Bells_twin fd_Bells_twin) (G_Bells_twin : FnOk P w K mg base CX0 3 f_Bells_twin fd_Bells_twin ["self"] (SP_Bells_twin K Z)) {f_Yard_twin : Addr} {fd_Yard_twin : FuncData} (D_Yard_twin : MDef K Z.Yard "twin" "Yard.twin" s_Yard_twin ["self"] f_Yard_twin fd_Yard_twin) (G_Yard_twin : FnOk P w K mg base CX0 3 f_Yard_twin fd_Yard_twin ["self"] (SP_Yard_twin K Z)) : FnOk P w K mg base CX0 4 f fd ["self"] (SP_Standing_twin K Z) := by
  refine F.ok sc_Standing_twin (fun vs H Q E h => ?_) (fun cdv A outer s H vs Q E hr h => ?_)
  · obtain ⟨s0, rl, g, n, ys, rfl, ⟨A0, hA⟩, hrl, hls, q⟩ := h
    rfl
  · obtain ⟨s0, rl, g, n, ys, rfl, ⟨A0, hA⟩, hrl, hls, q⟩ := h
    refine ⟨_, pss_one (ps_ret (pe_make D_Standing_init.M G_Standing_init (hr.mono (by decide)) (by rfl) T.m_Standing D_Standing_init.b .nil pass0 (pa_cons (pe_fld (pv 0) (by rfl)) (pa_cons (pe_fld (pv 0) (by rfl)) (pa_cons (pe_meth0 (pe_fld (pv 0) (by rfl)) T.cl_Bells D_Bells_twin.M G_Bells_twin (hr.mono (by decide)) D_Bells_twin.b .nil pass0) (pa_cons (pe_meth0 (pe_fld (pv 0) (by rfl)) T.cl_Yard D_Yard_twin.M G_Yard_twin (hr.mono (by decide)) D_Yard_twin.b .nil pass0) pa_nil)))))), ?_⟩
    walk_at "rd"
    refine ⟨_, _, _, hA.ob, T.cl_Standing, T.na_Standing_place, _, rfl, _, _, _, hA.ob, T.cl_Standing, T.na_Standing_opened, _, rfl, _, _, _, hA.ob, T.cl_Standing, T.na_Standing_bells, _, rfl, ?_⟩
    walk_at "rd"
    obtain ⟨db, hbb⟩ := hA.be.ob
    obtain ⟨dy, hyb⟩ := hA.ya.ob
    refine ⟨_, _, hbb, rfl, _, _, _, _, _, _, _, rfl, hA.be, hls, fun b1 cs1 fl1 H1 hb1 hc1 hf1 s1 hB1 => ?_⟩
    refine ⟨_, _, _, s1 _ _ hA.ob, T.cl_Standing, T.na_Standing_yard, _, rfl, ?_⟩
    walk_at "rd"
    refine ⟨_, _, s1 _ _ hyb, rfl, _, _, _, _, _, _, rfl, hA.ya.same s1, fun y2 kn2 wh2 H2 hy2 hk2 hw2 nkw s2 hY2 => ?_⟩
    refine fun x dx hx hdx nxd => ?_
    have s12 := s1.trans s2
    have hx' : upd H2 dx (.own x) x = none := by rw [upd_ne (Ne.symm nxd)]; exact hx
    refine ⟨x, dx, A0.ol, b1, y2, n.place, n.gates, rfl, upd_same, (((Same.refl H2).lay hdx).lay hx').seq (SqL.of (s12 _ _ hA.go)), fun ol H3 hol kp hob3 hol3 => ⟨rfl, ?_⟩⟩
    have s3 := madeSame hx hdx kp
    have holn := madeFree hol
    obtain ⟨_, ⟨as1, oc1, _⟩, of1, _⟩ := id hB1
    obtain ⟨_, okn2, owh2⟩ := id hY2
    have cs2 := s2 _ _ oc1
    have fl2 := s2 _ _ of1
    refine q x ⟨dx, ol, b1, cs1, fl1, A0.st, y2, kn2, wh2⟩ H3 (s12.trans s3) (s12.free hx) (s12.free holn) hb1 hf1 (s1.free hy2) (s1.free hw2) ⟨hob3, hol3, (hB1.same s2).same s3, hY2.same s3, ⟨?_, ?_, ?_, ?_, ?_, ?_, ?_, ?_, ?_, ?_, ?_, ?_, ?_, ?_, ?_, ?_⟩, ⟨(hA.nn.same (s12.trans s3)).al, hA.nn.nr, ?_, ?_, ?_, ?_, ?_⟩⟩
    · exact (ne_of_none hrl (s12.free holn)).symm
    · exact (ne_of_none hrl hc1).symm
    · exact (ne_of_none hrl hf1).symm
    · exact (ne_of_none hrl (s1.free hk2)).symm
    · exact (ne_of_none hrl (s1.free hw2)).symm
    · exact ne_of_none cs2 holn
    · exact ne_of_none fl2 holn
    · exact ne_of_none okn2 holn
    · exact ne_of_none owh2 holn
    · exact (ne_of_none fl2 holn).symm
    · exact (ne_of_none of1 hk2).symm
    · exact (ne_of_none of1 hw2).symm
    · exact (ne_of_none owh2 holn).symm
    · exact ne_of_none oc1 hw2
    · exact ne_of_none of1 hw2
    · exact nkw
    all_goals
      intro q hq
      obtain ⟨us, hu⟩ := hA.nn.al q hq
    · exact (ne_of_none hu (s12.free holn)).symm
    · exact (ne_of_none hu hc1).symm
    · exact (ne_of_none hu hf1).symm
    · exact (ne_of_none hu (s1.free hk2)).symm
    · exact (ne_of_none hu (s1.free hw2)).symm
def SP_Works_turn_gate (K : PySem.W.Frag) (Z : Adr) : Sp := fun vs H Q E => ∃ (w bk rl : Addr) (g : Cfg) (n0 : Snap) (rs : List Row) (wd : Str) (lv : Int) (b : Bool) (d : Dd), vs = [.ref w, .str wd, .int lv, .bl b] ∧ WAt (clZ Z) K H w bk rl g n0 rs ∧ g.ls.length ≤ 1000 ∧ g.ks.length = (lastSn n0 rs).ws.length ∧ (lastSn n0 rs).gates.length = g.ds.length ∧ ((wd = "open" ∧ b = true ∧ d = .opn lv) ∨ (wd = "shut" ∧ b = false ∧ d = .sht lv)) ∧ 
  (¬ (0 ≤ lv ∧ lv < g.ds.length) → ∀ H', Same H H' → E (.ref Z.UnknownLevel) none H') ∧
  (0 ≤ lv → lv < g.ds.length → (lastSn n0 rs).gates.getD lv.toNat false = b → ∀ H', Same H H' → E (.ref Z.NoChange) none H') ∧
  (0 ≤ lv → lv < g.ds.length → (lastSn n0 rs).gates.getD lv.toNat false = !b → DoneW Z K H w bk rl g n0 rs d Q E)
theorem ok_Works_turn_gate {f : Addr} {fd : FuncData} (F : Fun K "turn_gate" "Works.turn_gate" s_Works_turn_gate f fd) (T : Txt K mg Z) {f_Standing_twin : Addr} {fd_Standing_twin : FuncData} (D_Standing_twin : MDef K Z.Standing "twin" "Standing.twin" s_Standing_twin ["self"] f_Standing_twin fd_Standing_twin) (G_Standing_twin : FnOk P w K mg base CX0 4 f_Standing_twin fd_Standing_twin ["self"] (SP_Standing_twin K Z)) {f_check_level : Addr} {fd_check_level : FuncData} (D_check_level : Def K mg "check_level" s_check_level ["level", "many"] f_check_level fd_check_level) (G_check_level : FnOk P w K mg base (CXf P w) 2 f_check_level fd_check_level ["level", "many"] (SP_check_level K Z)) {f_Works_write : Addr} {fd_Works_write : FuncData} (D_Works_write : MDef K Z.Works "write" "Works.write" s_Works_write ["self", "deed", "ticks", "standing"] f_Works_write fd_Works_write) (G_Works_write : FnOk P w K mg base (CXf P w) 3 f_Works_write fd_Works_write ["self", "deed", "ticks", "standing"] (SP_Works_write K Z)) {f_Book_latest : Addr} {fd_Book_latest : FuncData} (D_Book_latest : MDef K Z.Book "latest" "Book.latest" s_Book_latest ["self"] f_Book_latest fd_Book_latest) (G_Book_latest : FnOk P w K mg base CX0 1 f_Book_latest fd_Book_latest ["self"] (SP_Book_latest K Z)) : FnOk P w K mg base (CXf P w) 5 f fd ["self", "word", "level", "wanted"] (SP_Works_turn_gate K Z) := by
  refine F.okF sc_Works_turn_gate (fun vs H Q E h => ?_) (fun cdv A outer s H vs Q E hr h => ?_)
  · obtain ⟨w, bk, rl, g, n0, rs, wd, lv, b, d, rfl, hW, hls, hks, hgl2, hd, q1, q2, q3⟩ := h
    rfl
  · obtain ⟨w, bk, rl, g, n0, rs, wd, lv, b, d, rfl, hW, hls, hks, hgl2, hd, q1, q2, q3⟩ := h
    refine ⟨_, pss_cons (ps_set (i := 4) sc_Works_turn_gate.nd rfl (Or.inl rfl) (pe_meth0 (pe_meth0 (pe_fld (pv 0) (by rfl)) T.cl_Book D_Book_latest.M G_Book_latest (hr.mono (by decide)) D_Book_latest.b .nil pass0) T.cl_Standing D_Standing_twin.M G_Standing_twin (hr.mono (by decide)) D_Standing_twin.b .nil pass0)) (pss_cons (ps_expr (pe_call G_check_level (hr.mono (by decide)) (by rfl) D_check_level.m D_check_level.F.kp D_check_level.b .nil passF (pa_cons (pv 2) (pa_cons (pe_callB call_len_seq (by rfl) T.g_len bo_len (pa_cons (pe_fld (pv 0) (by rfl)) pa_nil)) pa_nil)))) (pss_cons (ps_if (pt_cmpR op_eq (pe_ix ix_list (pe_fld (pv 4) (by rfl)) (pv 2) (fun _ _ => rfl)) (pv 3) (nomark _)) (pss_one (ps_raise T.x_NoChange (by rfl) T.m_NoChange (pa_cons pe_str pa_nil))) (pss_nil)) (pss_cons (ps_asg (pv 3) (pg_sub (pe_fld (pv 4) (by rfl)) (pv 2) set_list)) (pss_one (ps_ret (pe_meth (pv 0) T.cl_Works D_Works_write.M G_Works_write (hr.mono (by decide)) D_Works_write.b .nil passF (pa_cons (pe_tup (pa_cons (pv 1) (pa_cons (pv 2) pa_nil))) (pa_cons pe_int (pa_cons (pv 4) pa_nil))))))))), ?_⟩
    obtain ⟨⟨dx, dl, gl, hob, hdl, hgl, n1, n2⟩, hB⟩ := id hW
    obtain ⟨⟨db, f0, hbo, hF⟩, as, hrl, hR⟩ := id hB
    walk_at "rd"
    refine ⟨_, _, _, hob, T.cl_Works, T.na_Works_log, _, rfl, ?_⟩
    walk_at "rd"
    refine ⟨_, _, hbo, rfl, _, _, _, _, _, rfl, hB, fun s0 ⟨A0, hA0⟩ => ?_⟩
    walk_at "rd"
    refine ⟨_, _, hA0.ob, rfl, _, _, _, _, _, rfl, hA0.at, hrl, hls, fun s1 A H1 e1 hs1 ho1 hb1 hf1 hy1 hw1 hA => ?_⟩
    have hW1 := hW.same e1
    have hob1 := e1 _ _ hob
    have hbo1 := e1 _ _ hbo
    have hrl1 := e1 _ _ hrl
    have hdl1 := e1 _ _ hdl
    walk_at "rd"
    refine ⟨_, _, _, hob1, T.cl_Works, T.na_Works_depths, _, rfl, ?_⟩
    walk_at "rd"
    refine ⟨_, .inl (SqL.of hdl1), _, _, rfl, ?_⟩
    rw [List.length_map]
    refine ⟨fun hlv => ?_, fun h => q1 h _ e1⟩
    walk_at "rd"
    refine ⟨_, _, _, hA.ob, T.cl_Standing, T.na_Standing_opened, _, rfl, ?_⟩
    walk_at "rd"
    refine ⟨_, SqL.of hA.go, _, atI_bl hlv.1 (by omega), ?_⟩
    walk_at "rd"
    split
    · rename_i h
      exact ⟨by decide, q2 hlv.1 hlv.2 h _ e1⟩
    · rename_i h
      have h3 := q3 hlv.1 hlv.2 (by cases b <;> simpa using h)
      refine ⟨_, _, _, hA.ob, T.cl_Standing, T.na_Standing_opened, _, rfl, ?_⟩
      walk_at "rd"
      refine ⟨_, hA.go, _, ixN_ok hlv.1 (by rw [List.length_map]; omega), ?_⟩
      have e2 := e1.rewr (o := HO.lst (((lastSn n0 rs).gates.map V.bl).set lv.toNat (V.bl b))) ho1
      have k2 : L2.Keeps A.ol H1 (upd H1 A.ol (HO.lst (((lastSn n0 rs).gates.map V.bl).set lv.toNat (V.bl b)))) := (Keeps.of (Same.refl H1)).put
      have hA2 := hA.gates k2 (gs := (lastSn n0 rs).gates.set lv.toNat b) (by rw [upd_same, List.map_set])
      generalize upd H1 A.ol (HO.lst (((lastSn n0 rs).gates.map V.bl).set lv.toNat (V.bl b))) = H2 at *
      have hW2 := hW.same e2
      refine ⟨_, _, e2 _ _ hob, rfl, by decide, fun p hp => ?_⟩
      have e3 := e2.lay (o := HO.tup [V.str wd, V.int lv]) hp
      have f3 := (Same.refl H2).lay (o := HO.tup [V.str wd, V.int lv]) hp
      refine ⟨_, _, _, _, _, _, p, s1, 1, ddV d, nextD g (lastSn n0 rs) d, rfl, hW.same e3, SqT.of ?_, ?_, ?_, fun h H' s' => h3.1 h H' (e3.trans s'), fun h H' k hWn => ?_⟩
      · rw [upd_same]; rcases hd with ⟨rfl, _, rfl⟩ | ⟨rfl, _, rfl⟩ <;> rfl
      · refine (StandX.at (A := A) ?_).same f3
        rcases hd with ⟨_, rfl, rfl⟩ | ⟨_, rfl, rfl⟩ <;> exact hA2
      · rw [hks]; rcases hd with ⟨_, rfl, rfl⟩ | ⟨_, rfl, rfl⟩ <;> rfl
      · have := h3.2 h H' ((Keeps.of e3).trans k)
        rcases hd with ⟨_, rfl, rfl⟩ | ⟨_, rfl, rfl⟩ <;> exact this hWn
def SPn_same (K : PySem.W.Frag) : Nat → Sp
  | 0 => fun _ _ _ _ => False
  | n + 1 => fun vs H Q _ => ∃ (x y : V) (d : Dt), vs = [x, y] ∧ Rep K H n x d ∧ Rep K H n y d ∧ ∀ H', Same H H' → Q (.bl true) H'
def SP_l_same (K : PySem.W.Frag) (Z : Adr) : Sp := SPn_same K 5
def iv_same (x y : V) (H : Hp) (_ : Nat) (σ : St) (H' : Hp) : Prop := Same H H' ∧ ∃ t, σ = [some x, some y, none, t]
theorem any2_flat {v : V} {T : String} (h : tyName v = some T) : (["list", "tuple"].any (subB T)) = false := by
  cases v <;> simp only [tyName, Option.some.injEq, reduceCtorEq] at h <;> subst h <;> decide
theorem tyName_flat {v : V} (h : flatV v = true) : ∃ T, tyName v = some T := by
  cases v <;> simp only [flatV, reduceCtorEq, Bool.false_eq_true] at h <;> exact ⟨_, rfl⟩
theorem scal_same {v : V} (h : flatV v = true) : scal v v = true := by
  cases v <;> simp only [flatV, reduceCtorEq, Bool.false_eq_true] at h <;> rfl
theorem step_l_same {f : Addr} {fd : FuncData} (F : Fun K "_law_same" "_law_same" s_l_same f fd) (T : Txt K mg Z) (D_l_same : Def K mg "_law_same" s_l_same ["_law_found", "_law_due"] f fd) {n : Nat}
    (G_l_same : FnOk P w K mg base CX0 n f fd ["_law_found", "_law_due"] (SPn_same K n)) : FnOk P w K mg base CX0 (n + 1) f fd ["_law_found", "_law_due"] (SPn_same K (n + 1)) := by
  refine F.ok sc_l_same (fun vs H Q E h => ?_) (fun cdv A outer s H vs Q E hr h => ?_)
  · obtain ⟨x, y, d, rfl, _⟩ := h
    rfl
  · obtain ⟨x, y, d, rfl, hx, hy, q⟩ := h
    refine ⟨_, pss_cons (ps_if (pt_not (pt_val (pe_callB call_isiT (by rfl) T.g_isinstance bo_isinstance (pa_cons (pv 1) (pa_cons (pe_tup (pa_cons (pe_bltn (v := .ty "list") (by rfl) T.g_list bo_list rfl) (pa_cons (pe_bltn (v := .ty "tuple") (by rfl) T.g_tuple bo_tuple rfl) pa_nil))) pa_nil))))) (pss_cons (ps_set (i := 2) sc_l_same.nd rfl (Or.inl rfl) (pe_cmpR op_eq (pe_callB call_isiT (by rfl) T.g_isinstance bo_isinstance (pa_cons (pv 0) (pa_cons (pe_tup (pa_cons (pe_bltn (v := .ty "int") (by rfl) T.g_int bo_int rfl) (pa_cons (pe_bltn (v := .ty "str") (by rfl) T.g_str bo_str rfl) pa_nil))) pa_nil))) (pe_callB call_isiT (by rfl) T.g_isinstance bo_isinstance (pa_cons (pv 1) (pa_cons (pe_tup (pa_cons (pe_bltn (v := .ty "int") (by rfl) T.g_int bo_int rfl) (pa_cons (pe_bltn (v := .ty "str") (by rfl) T.g_str bo_str rfl) pa_nil))) pa_nil))) (nomark _))) (pss_one (ps_ret (pe_and (pv 2) (pe_and (pe_cmpR op_eq (pe_callB call_isiX (by rfl) T.g_isinstance bo_isinstance (pa_cons (pv 0) (pa_cons (pe_bltn (v := .ty "bool") (by rfl) T.g_bool bo_bool rfl) pa_nil))) (pe_callB call_isiX (by rfl) T.g_isinstance bo_isinstance (pa_cons (pv 1) (pa_cons (pe_bltn (v := .ty "bool") (by rfl) T.g_bool bo_bool rfl) pa_nil))) (nomark _)) (pe_one (pe_cmpR op_eq (pv 0) (pv 1) (nomark _)))))))) (pss_nil)) (pss_cons (ps_if (pt_cmpR op_ne (pe_callB call_isiX (by rfl) T.g_isinstance bo_isinstance (pa_cons (pv 0) (pa_cons (pe_bltn (v := .ty "list") (by rfl) T.g_list bo_list rfl) pa_nil))) (pe_callB call_isiX (by rfl) T.g_isinstance bo_isinstance (pa_cons (pv 1) (pa_cons (pe_bltn (v := .ty "list") (by rfl) T.g_list bo_list rfl) pa_nil))) (nomark _)) (pss_one (ps_ret pe_bl)) (pss_nil)) (pss_cons (ps_if (pw_or (pt_cmpR op_ne (pe_callB call_isiX (by rfl) T.g_isinstance bo_isinstance (pa_cons (pv 0) (pa_cons (pe_bltn (v := .ty "tuple") (by rfl) T.g_tuple bo_tuple rfl) pa_nil))) (pe_callB call_isiX (by rfl) T.g_isinstance bo_isinstance (pa_cons (pv 1) (pa_cons (pe_bltn (v := .ty "tuple") (by rfl) T.g_tuple bo_tuple rfl) pa_nil))) (nomark _)) (pw_or1 (pt_cmpR op_ne (pe_callB call_len_seq (by rfl) T.g_len bo_len (pa_cons (pv 0) pa_nil)) (pe_callB call_len_seq (by rfl) T.g_len bo_len (pa_cons (pv 1) pa_nil)) (nomark _)))).pt (pss_one (ps_ret pe_bl)) (pss_nil)) (pss_cons (ps_for PassesOwn.never rfl (pi_range1 (by rfl) T.g_range (pa_cons (pe_callB call_len_seq (by rfl) T.g_len bo_len (pa_cons (pv 1) pa_nil)) pa_nil)) (pg_name (i := 3) sc_l_same.nd rfl (Or.inl rfl)) (pss_one (ps_if (pt_not (pt_val (pe_call G_l_same hr (by rfl) D_l_same.m D_l_same.F.kp D_l_same.b .nil pass0 (pa_cons (pe_ix ix_seq (pv 0) (pv 3) (fun _ _ => rfl)) (pa_cons (pe_ix ix_seq (pv 1) (pv 3) (fun _ _ => rfl)) pa_nil))))) (pss_one (ps_ret pe_bl)) (pss_nil)))) (pss_one (ps_ret pe_bl))))), ?_⟩
    walk_at "rd"
    refine ⟨by decide, fun tp htp => ?_⟩
    have s1 := (Same.refl H).lay (o := HO.tup [V.ty "list", V.ty "tuple"]) htp
    have ht1 : upd H tp (HO.tup [V.ty "list", V.ty "tuple"]) tp = some (HO.tup (["list", "tuple"].map V.ty)) := upd_same
    generalize upd H tp (HO.tup [V.ty "list", V.ty "tuple"]) = H1 at *
    cases hx with
    | @flat _ v hv =>
      cases hy with
      | flat _ =>
        obtain ⟨T0, hT⟩ := tyName_flat hv
        refine ⟨_, tp, ["list", "tuple"], T0, rfl, SqT.of ht1, .inl hT, by decide, ?_⟩
        rw [any2_flat hT]
        walk_at "rd"
        refine ⟨by decide, fun p1 hp1 => ⟨_, p1, ["int", "str"], T0, rfl, SqT.of upd_same, .inl hT, by decide, ?_⟩⟩
        refine ⟨by decide, fun p2 hp2 => ⟨_, p2, ["int", "str"], T0, rfl, SqT.of upd_same, .inl hT, by decide, ?_⟩⟩
        walk_at "rd"
        refine ⟨_, "bool", T0, rfl, .inl hT, by decide, _, "bool", T0, rfl, .inl hT, by decide, ?_⟩
        walk_at "rd"
        refine ⟨scal_same hv, ?_⟩
        exact q _ ((s1.lay hp1).lay hp2)
    | @lst m a xs ds hs hb hl hrx =>
      cases hy with
      | @lst _ b ys _ hs' hb' hl' hry =>
        have ha1 := s1.seq hs
        have hb1 := s1.seq hs'
        refine ⟨.ref b, tp, ["list", "tuple"], "list", rfl, SqT.of ht1, .inr (.inl ⟨b, ys, rfl, hb1, rfl⟩), by decide, ?_⟩
        rw [show (["list", "tuple"].any (subB "list")) = true from by decide]
        walk_at "rd"
        refine ⟨.ref a, "list", "list", rfl, .inr (.inl ⟨a, xs, rfl, ha1, rfl⟩), by decide, .ref b, "list", "list", rfl, .inr (.inl ⟨b, ys, rfl, hb1, rfl⟩), by decide, ?_⟩
        walk_at "rd"
        refine ⟨.ref a, "tuple", "list", rfl, .inr (.inl ⟨a, xs, rfl, ha1, rfl⟩), by decide, .ref b, "tuple", "list", rfl, .inr (.inl ⟨b, ys, rfl, hb1, rfl⟩), by decide, ?_⟩
        walk_at "rd"
        refine ⟨xs, .inl ha1, ys, .inl hb1, ?_⟩
        rw [if_neg (by omega)]
        refine ⟨ys, .inl hb1, by omega, by omega, ?_⟩
        refine loop_range (iv_same (.ref a) (.ref b) H1) ⟨Same.refl _, _, rfl⟩ ?_ ?_
        · rintro i σ H2 hi ⟨s2, t, rfl⟩
          have hi1 : i < xs.length := by omega
          have hi2 : i < ys.length := by omega
          have hi3 : i < ds.length := by omega
          have ex : xs[i]? = some xs[i] := List.getElem?_eq_getElem hi1
          have ey : ys[i]? = some ys[i] := List.getElem?_eq_getElem hi2
          have ed : ds[i]? = some ds[i] := List.getElem?_eq_getElem hi3
          walk_at "rd"
          rw [Int.zero_add]
          refine .inl ⟨a, xs, _, _, rfl, rfl, s2.seq ha1, atI_of ex, .inl ⟨b, ys, _, _, rfl, rfl, s2.seq hb1, atI_of ey, ?_⟩⟩
          refine ⟨_, _, ds[i], rfl, (hrx i _ _ ex ed).same (s1.trans s2), (hry i _ _ ey ed).same (s1.trans s2), fun H3 s3 => ?_⟩
          walk_at "rd"
          exact ⟨s2.trans s3, _, rfl⟩
        · rintro σ H2 ⟨s2, t, rfl⟩
          walk_at "rd"
          exact q _ (s1.trans s2)
    | @tup m a xs ds hs hb hl hrx =>
      cases hy with
      | @tup _ b ys _ hs' hb' hl' hry =>
        have ha1 := s1.tup hs
        have hb1 := s1.tup hs'
        refine ⟨.ref b, tp, ["list", "tuple"], "tuple", rfl, SqT.of ht1, .inr (.inr ⟨b, ys, rfl, hb1, rfl⟩), by decide, ?_⟩
        rw [show (["list", "tuple"].any (subB "tuple")) = true from by decide]
        walk_at "rd"
        refine ⟨.ref a, "list", "tuple", rfl, .inr (.inr ⟨a, xs, rfl, ha1, rfl⟩), by decide, .ref b, "list", "tuple", rfl, .inr (.inr ⟨b, ys, rfl, hb1, rfl⟩), by decide, ?_⟩
        walk_at "rd"
        refine ⟨.ref a, "tuple", "tuple", rfl, .inr (.inr ⟨a, xs, rfl, ha1, rfl⟩), by decide, .ref b, "tuple", "tuple", rfl, .inr (.inr ⟨b, ys, rfl, hb1, rfl⟩), by decide, ?_⟩
        walk_at "rd"
        refine ⟨xs, .inr ha1, ys, .inr hb1, ?_⟩
        rw [if_neg (by omega)]
        refine ⟨ys, .inr hb1, by omega, by omega, ?_⟩
        refine loop_range (iv_same (.ref a) (.ref b) H1) ⟨Same.refl _, _, rfl⟩ ?_ ?_
        · rintro i σ H2 hi ⟨s2, t, rfl⟩
          have hi1 : i < xs.length := by omega
          have hi2 : i < ys.length := by omega
          have hi3 : i < ds.length := by omega
          have ex : xs[i]? = some xs[i] := List.getElem?_eq_getElem hi1
          have ey : ys[i]? = some ys[i] := List.getElem?_eq_getElem hi2
          have ed : ds[i]? = some ds[i] := List.getElem?_eq_getElem hi3
          walk_at "rd"
          rw [Int.zero_add]
          refine .inr (.inl ⟨a, xs, _, _, rfl, rfl, s2.tup ha1, atI_of ex, .inr (.inl ⟨b, ys, _, _, rfl, rfl, s2.tup hb1, atI_of ey, ?_⟩)⟩)
          refine ⟨_, _, ds[i], rfl, (hrx i _ _ ex ed).same (s1.trans s2), (hry i _ _ ey ed).same (s1.trans s2), fun H3 s3 => ?_⟩
          walk_at "rd"
          exact ⟨s2.trans s3, _, rfl⟩
        · rintro σ H2 ⟨s2, t, rfl⟩
          walk_at "rd"
          exact q _ (s1.trans s2)
theorem ok_l_same {f : Addr} {fd : FuncData} (F : Fun K "_law_same" "_law_same" s_l_same f fd) (T : Txt K mg Z) (D_l_same : Def K mg "_law_same" s_l_same ["_law_found", "_law_due"] f fd) : FnOk P w K mg base CX0 5 f fd ["_law_found", "_law_due"] (SP_l_same K Z) := by
  have h : ∀ n, FnOk P w K mg base CX0 n f fd ["_law_found", "_law_due"] (SPn_same K n) := by
    intro n
    induction n with
    | zero => exact fn_false
    | succ n ih => exact step_l_same F T D_l_same ih
  exact h 5
def SP_Works_open_gate (K : PySem.W.Frag) (Z : Adr) : Sp := fun vs H Q E => ∃ (w bk rl : Addr) (g : Cfg) (n0 : Snap) (rs : List Row) (lv : Int), vs = [.ref w, .int lv] ∧ WAt (clZ Z) K H w bk rl g n0 rs ∧ g.ls.length ≤ 1000 ∧ g.ks.length = (lastSn n0 rs).ws.length ∧ (lastSn n0 rs).gates.length = g.ds.length ∧
  (¬ (0 ≤ lv ∧ lv < g.ds.length) → ∀ H', Same H H' → E (.ref Z.UnknownLevel) none H') ∧
  (0 ≤ lv → lv < g.ds.length → (lastSn n0 rs).gates.getD lv.toNat false = true → ∀ H', Same H H' → E (.ref Z.NoChange) none H') ∧
  (0 ≤ lv → lv < g.ds.length → (lastSn n0 rs).gates.getD lv.toNat false = false → DoneW Z K H w bk rl g n0 rs (.opn lv) Q E)
theorem ok_Works_open_gate {f : Addr} {fd : FuncData} (F : Fun K "open_gate" "Works.open_gate" s_Works_open_gate f fd) (T : Txt K mg Z) {f_Works_turn_gate : Addr} {fd_Works_turn_gate : FuncData} (D_Works_turn_gate : MDef K Z.Works "turn_gate" "Works.turn_gate" s_Works_turn_gate ["self", "word", "level", "wanted"] f_Works_turn_gate fd_Works_turn_gate) (G_Works_turn_gate : FnOk P w K mg base (CXf P w) 5 f_Works_turn_gate fd_Works_turn_gate ["self", "word", "level", "wanted"] (SP_Works_turn_gate K Z)) : FnOk P w K mg base (CXf P w) 6 f fd ["self", "level"] (SP_Works_open_gate K Z) := by
  refine F.okF sc_Works_open_gate (fun vs H Q E h => ?_) (fun cdv A outer s H vs Q E hr h => ?_)
  · obtain ⟨w, bk, rl, g, n0, rs, lv, rfl, hW, hls, hks, hgl2, q1, q2, q3⟩ := h
    rfl
  · obtain ⟨w, bk, rl, g, n0, rs, lv, rfl, hW, hls, hks, hgl2, q1, q2, q3⟩ := h
    refine ⟨_, pss_one (ps_ret (pe_meth (pv 0) T.cl_Works D_Works_turn_gate.M G_Works_turn_gate (hr.mono (by decide)) D_Works_turn_gate.b .nil passF (pa_cons pe_str (pa_cons (pv 1) (pa_cons pe_bl pa_nil))))), ?_⟩
    obtain ⟨dx, dl, gl, hob, _⟩ := id hW.ob
    walk_at "rd"
    exact ⟨_, _, hob, rfl, _, _, _, _, _, _, _, _, _, _, rfl, hW, hls, hks, hgl2, .inl ⟨rfl, rfl, rfl⟩, q1, q2, q3⟩
def SP_Works_shut_gate (K : PySem.W.Frag) (Z : Adr) : Sp := fun vs H Q E => ∃ (w bk rl : Addr) (g : Cfg) (n0 : Snap) (rs : List Row) (lv : Int), vs = [.ref w, .int lv] ∧ WAt (clZ Z) K H w bk rl g n0 rs ∧ g.ls.length ≤ 1000 ∧ g.ks.length = (lastSn n0 rs).ws.length ∧ (lastSn n0 rs).gates.length = g.ds.length ∧
  (¬ (0 ≤ lv ∧ lv < g.ds.length) → ∀ H', Same H H' → E (.ref Z.UnknownLevel) none H') ∧
  (0 ≤ lv → lv < g.ds.length → (lastSn n0 rs).gates.getD lv.toNat false = false → ∀ H', Same H H' → E (.ref Z.NoChange) none H') ∧
  (0 ≤ lv → lv < g.ds.length → (lastSn n0 rs).gates.getD lv.toNat false = true → DoneW Z K H w bk rl g n0 rs (.sht lv) Q E)
theorem ok_Works_shut_gate {f : Addr} {fd : FuncData} (F : Fun K "shut_gate" "Works.shut_gate" s_Works_shut_gate f fd) (T : Txt K mg Z) {f_Works_turn_gate : Addr} {fd_Works_turn_gate : FuncData} (D_Works_turn_gate : MDef K Z.Works "turn_gate" "Works.turn_gate" s_Works_turn_gate ["self", "word", "level", "wanted"] f_Works_turn_gate fd_Works_turn_gate) (G_Works_turn_gate : FnOk P w K mg base (CXf P w) 5 f_Works_turn_gate fd_Works_turn_gate ["self", "word", "level", "wanted"] (SP_Works_turn_gate K Z)) : FnOk P w K mg base (CXf P w) 6 f fd ["self", "level"] (SP_Works_shut_gate K Z) := by
  refine F.okF sc_Works_shut_gate (fun vs H Q E h => ?_) (fun cdv A outer s H vs Q E hr h => ?_)
  · obtain ⟨w, bk, rl, g, n0, rs, lv, rfl, hW, hls, hks, hgl2, q1, q2, q3⟩ := h
    rfl
  · obtain ⟨w, bk, rl, g, n0, rs, lv, rfl, hW, hls, hks, hgl2, q1, q2, q3⟩ := h
    refine ⟨_, pss_one (ps_ret (pe_meth (pv 0) T.cl_Works D_Works_turn_gate.M G_Works_turn_gate (hr.mono (by decide)) D_Works_turn_gate.b .nil passF (pa_cons pe_str (pa_cons (pv 1) (pa_cons pe_bl pa_nil))))), ?_⟩
    obtain ⟨dx, dl, gl, hob, _⟩ := id hW.ob
    walk_at "rd"
    exact ⟨_, _, hob, rfl, _, _, _, _, _, _, _, _, _, _, rfl, hW, hls, hks, hgl2, .inr ⟨rfl, rfl, rfl⟩, q1, q2, q3⟩
def SP_l_turned (K : PySem.W.Frag) (Z : Adr) : Sp := fun vs H Q _ => ∃ (w bk rl : Addr) (g : Cfg) (n0 : Snap) (rs : List Row) (b : Bool) (lv : Int), vs = [.ref w, .bl b, .int lv] ∧ WAt (clZ Z) K H w bk rl g n0 rs ∧ g.ls.length ≤ 1000 ∧ g.ks.length = (lastSn n0 rs).ws.length ∧ (lastSn n0 rs).gates.length = g.ds.length ∧ rs.length < 300 ∧
  (¬ (0 ≤ lv ∧ lv < g.ds.length) → ∀ p h H', Same H H' → H' p = some (.lst [.int 0, .ref h]) → H' h = some (.lst [.bl false, .bl true]) → Q (.ref p) H') ∧
  (0 ≤ lv → lv < g.ds.length → (lastSn n0 rs).gates.getD lv.toNat false = b → ∀ p h H', Same H H' → H' p = some (.lst [.int 0, .ref h]) → H' h = some (.lst [.bl true, .bl false]) → Q (.ref p) H') ∧
  (0 ≤ lv → lv < g.ds.length → (lastSn n0 rs).gates.getD lv.toNat false = !b → ∀ p h H', H h = none → Keeps rl H H' → WAt (clZ Z) K H' w bk rl g n0 (rs ++ [rowOf g n0 rs (if b = true then .opn lv else .sht lv)]) → H' p = some (.lst [.int (nowF rs + 1), .ref h]) → H' h = some (.lst []) → Q (.ref p) H')
theorem ok_l_turned {f : Addr} {fd : FuncData} (F : Fun K "_law_turned" "_law_turned" s_l_turned f fd) (T : Txt K mg Z) {f_Works_open_gate : Addr} {fd_Works_open_gate : FuncData} (D_Works_open_gate : MDef K Z.Works "open_gate" "Works.open_gate" s_Works_open_gate ["self", "level"] f_Works_open_gate fd_Works_open_gate) (G_Works_open_gate : FnOk P w K mg base (CXf P w) 6 f_Works_open_gate fd_Works_open_gate ["self", "level"] (SP_Works_open_gate K Z)) {f_Works_shut_gate : Addr} {fd_Works_shut_gate : FuncData} (D_Works_shut_gate : MDef K Z.Works "shut_gate" "Works.shut_gate" s_Works_shut_gate ["self", "level"] f_Works_shut_gate fd_Works_shut_gate) (G_Works_shut_gate : FnOk P w K mg base (CXf P w) 6 f_Works_shut_gate fd_Works_shut_gate ["self", "level"] (SP_Works_shut_gate K Z)) : FnOk P w K mg base CX0 7 f fd ["_law_works", "_law_wide", "_law_level"] (SP_l_turned K Z) := by
  refine F.ok sc_l_turned (fun vs H Q E h => ?_) (fun cdv A outer s H vs Q E hr h => ?_)
  · obtain ⟨w, bk, rl, g, n0, rs, b, lv, rfl, hW, hls, hks, hgl, hrs, q1, q2, q3⟩ := h
    rfl
  · obtain ⟨w, bk, rl, g, n0, rs, b, lv, rfl, hW, hls, hks, hgl, hrs, q1, q2, q3⟩ := h
    refine ⟨_, pss_cons (ps_set (i := 3) sc_l_turned.nd rfl (Or.inl rfl) (pe_lst pa_nil)) (pss_cons (ps_set (i := 4) sc_l_turned.nd rfl (Or.inl rfl) pe_int) (pss_cons (ps_try (i := 5) rfl rfl (fun _ _ => pss_one (ps_if (pt_val (pv 1)) (pss_one (ps_set (i := 4) sc_l_turned.nd rfl (Or.inl rfl) (pe_methT (pv 0) T.cl_Works D_Works_open_gate.M G_Works_open_gate (hr.mono (by decide)) D_Works_open_gate.b .nil (pa_cons (pv 2) pa_nil)))) (pss_one (ps_set (i := 4) sc_l_turned.nd rfl (Or.inl rfl) (pe_methT (pv 0) T.cl_Works D_Works_shut_gate.M G_Works_shut_gate (hr.mono (by decide)) D_Works_shut_gate.b .nil (pa_cons (pv 2) pa_nil)))))) (fun _ => pss_one (ps_set (i := 3) sc_l_turned.nd rfl (Or.inl rfl) (pe_lst (pa_cons (pe_callB (show CallR _ (.builtin "isinstance") (rIsx K) from call_isx) (by rfl) T.g_isinstance bo_isinstance (pa_cons (pv 5) (pa_cons (pe_glob (v := .ref Z.NoChange) (by rfl) T.m_NoChange rfl) pa_nil))) (pa_cons (pe_callB (show CallR _ (.builtin "isinstance") (rIsx K) from call_isx) (by rfl) T.g_isinstance bo_isinstance (pa_cons (pv 5) (pa_cons (pe_glob (v := .ref Z.UnknownLevel) (by rfl) T.m_UnknownLevel rfl) pa_nil))) pa_nil))))) sc_l_turned.nd rfl rfl (by rfl) T.m_CageError) (pss_one (ps_ret (pe_lst (pa_cons (pv 4) (pa_cons (pv 3) pa_nil))))))), ?_⟩
    walk_at "rd"
    refine ⟨by decide, fun h0 hh0 => ?_⟩
    have s1 := (Same.refl H).lay (o := HO.lst []) hh0
    have hh1 : upd H h0 (HO.lst []) h0 = some (HO.lst []) := upd_same
    generalize upd H h0 (HO.lst []) = H1 at *
    have hW1 := hW.same s1
    obtain ⟨dx, dl, gl, hob, _⟩ := id hW1.ob
    obtain ⟨as, hrl⟩ := hW.rows
    cases b with
    | true =>
      walk_at "rd"
      refine ⟨_, _, hob, rfl, _, _, _, _, _, _, _, rfl, hW1, hls, hks, hgl, fun h H2 s2 => ?_, fun h h' h2 H2 s2 => ?_, fun h h' h2 => ⟨fun h3 => absurd h3 (by omega), fun _ H2 k2 hW2 => ?_⟩⟩
      ·
        refine ⟨T.e_UnknownLevel_CageError, fun e he => ?_⟩
        walk_at "rd"
        refine isx_ upd_same T.i_UnknownLevel T.k_UnknownLevel_NoChange clsV_ref (isx_ upd_same T.i_UnknownLevel T.k_UnknownLevel_UnknownLevel clsV_ref ⟨by decide, fun p hp => ?_⟩)
        refine ⟨by decide, fun p2 hp2 => ?_⟩
        exact q1 h p2 p _ ((((s1.trans s2).lay he).lay hp).lay hp2) upd_same (upo upd_same hp2)
      ·
        refine ⟨T.e_NoChange_CageError, fun e he => ?_⟩
        walk_at "rd"
        refine isx_ upd_same T.i_NoChange T.k_NoChange_NoChange clsV_ref (isx_ upd_same T.i_NoChange T.k_NoChange_UnknownLevel clsV_ref ⟨by decide, fun p hp => ?_⟩)
        refine ⟨by decide, fun p2 hp2 => ?_⟩
        exact q2 h h' h2 p2 p _ ((((s1.trans s2).lay he).lay hp).lay hp2) upd_same (upo upd_same hp2)
      · walk_at "rd"
        have k02 : L2.Keeps rl H H2 := (Keeps.of s1).trans k2
        have hh2 := k2 _ _ (fun z => by rw [z, hrl] at hh0; cases hh0) hh1
        refine ⟨by decide, fun p hp => ?_⟩
        exact q3 h h' h2 p h0 _ hh0 (k02.trans (Keeps.of ((Same.refl H2).lay hp))) (hW2.same ((Same.refl H2).lay hp)) upd_same (upo hh2 hp)
    | false =>
      walk_at "rd"
      refine ⟨_, _, hob, rfl, _, _, _, _, _, _, _, rfl, hW1, hls, hks, hgl, fun h H2 s2 => ?_, fun h h' h2 H2 s2 => ?_, fun h h' h2 => ⟨fun h3 => absurd h3 (by omega), fun _ H2 k2 hW2 => ?_⟩⟩
      ·
        refine ⟨T.e_UnknownLevel_CageError, fun e he => ?_⟩
        walk_at "rd"
        refine isx_ upd_same T.i_UnknownLevel T.k_UnknownLevel_NoChange clsV_ref (isx_ upd_same T.i_UnknownLevel T.k_UnknownLevel_UnknownLevel clsV_ref ⟨by decide, fun p hp => ?_⟩)
        refine ⟨by decide, fun p2 hp2 => ?_⟩
        exact q1 h p2 p _ ((((s1.trans s2).lay he).lay hp).lay hp2) upd_same (upo upd_same hp2)
      ·
        refine ⟨T.e_NoChange_CageError, fun e he => ?_⟩
        walk_at "rd"
        refine isx_ upd_same T.i_NoChange T.k_NoChange_NoChange clsV_ref (isx_ upd_same T.i_NoChange T.k_NoChange_UnknownLevel clsV_ref ⟨by decide, fun p hp => ?_⟩)
        refine ⟨by decide, fun p2 hp2 => ?_⟩
        exact q2 h h' h2 p2 p _ ((((s1.trans s2).lay he).lay hp).lay hp2) upd_same (upo upd_same hp2)
      · walk_at "rd"
        have k02 : L2.Keeps rl H H2 := (Keeps.of s1).trans k2
        have hh2 := k2 _ _ (fun z => by rw [z, hrl] at hh0; cases hh0) hh1
        refine ⟨by decide, fun p hp => ?_⟩
        exact q3 h h' h2 p h0 _ hh0 (k02.trans (Keeps.of ((Same.refl H2).lay hp))) (hW2.same ((Same.refl H2).lay hp)) upd_same (upo hh2 hp)
def iv_24 (Z : Adr) (K : PySem.W.Frag) (H : Hp) (a dl cl : Addr) (slow fast : Int) (w bk rl gt wl : Addr) (g : Cfg) (n0 : Snap) (i : Nat) (σ : St) (H' : Hp) : Prop := ∃ (rs : List Row) (as : List Addr) (t9 t10 t11 t12 t13 t14 : Option V), σ = [some (.ref a), some (.ref dl), some (.ref cl), some (.int slow), some (.int fast), some (.ref w), some (.int (g.ds.length : Nat)), some (.ref gt), some (.ref wl), t9, t10, t11, t12, t13, t14] ∧ Same H H' ∧ WAt (clZ Z) K H' w bk rl g n0 rs ∧ Run g n0 rs ∧ rs.length ≤ i ∧ nowF rs = (rs.length : Nat) ∧ H' gt = some (.lst ((lastSn n0 rs).gates.map V.bl)) ∧ H' wl = some (.lst (as.map V.ref)) ∧ ToldAt K H' as rs
theorem rep_one {α : Type} (n : Nat) (x : α) : (List.replicate n [x]).flatten = List.replicate n x := by
  induction n with
  | zero => rfl
  | succ n ih => rw [List.replicate_succ, List.replicate_succ, List.flatten_cons, ih]; rfl
theorem word24 {b : Bool} : atI [V.str "shut", V.str "open"] (if b = true then 1 else 0) = some (.str (if b = true then "open" else "shut")) := by
  cases b <;> rfl
def SP_law (K : PySem.W.Frag) (Z : Adr) : Sp := fun vs H Q _ => ∃ (a : Addr) (ns : List Int), vs = [.ref a] ∧ SqL K H a (ns.map V.int) ∧ ns.length ≤ 63 ∧ ∀ H', Q (.bl true) H'
theorem o0_law {f : Addr} {fd : FuncData} (F : Fun K "law" "law" s_law f fd) (T : Txt K mg Z) {f_l_shaft : Addr} {fd_l_shaft : FuncData} (D_l_shaft : Def K mg "_law_shaft" s_l_shaft ["_law_script"] f_l_shaft fd_l_shaft) (G_l_shaft : FnOk P w K mg base CX0 3 f_l_shaft fd_l_shaft ["_law_script"] (SP_l_shaft K Z)) {f_Works_init : Addr} {fd_Works_init : FuncData} (D_Works_init : IDef K Z.Works "Works.__init__" s_Works_init ["self", "depths", "codes", "slow", "fast", "loads"] f_Works_init fd_Works_init) (G_Works_init : FnOk P w K mg base (CXf P w) 3 f_Works_init fd_Works_init ["self", "depths", "codes", "slow", "fast", "loads"] (SP_Works_init K Z)) {f_l_mixed : Addr} {fd_l_mixed : FuncData} (D_l_mixed : Def K mg "_law_mixed" s_l_mixed ["_law_script", "_law_k"] f_l_mixed fd_l_mixed) (G_l_mixed : FnOk P w K mg base CX0 1 f_l_mixed fd_l_mixed ["_law_script", "_law_k"] (SP_l_mixed K Z)) {f_l_turned : Addr} {fd_l_turned : FuncData} (D_l_turned : Def K mg "_law_turned" s_l_turned ["_law_works", "_law_wide", "_law_level"] f_l_turned fd_l_turned) (G_l_turned : FnOk P w K mg base CX0 7 f_l_turned fd_l_turned ["_law_works", "_law_wide", "_law_level"] (SP_l_turned K Z)) {f_l_same : Addr} {fd_l_same : FuncData} (D_l_same : Def K mg "_law_same" s_l_same ["_law_found", "_law_due"] f_l_same fd_l_same) (G_l_same : FnOk P w K mg base CX0 5 f_l_same fd_l_same ["_law_found", "_law_due"] (SP_l_same K Z)) {f_Works_book : Addr} {fd_Works_book : FuncData} (D_Works_book : MDef K Z.Works "book" "Works.book" s_Works_book ["self"] f_Works_book fd_Works_book) (G_Works_book : FnOk P w K mg base CX0 2 f_Works_book fd_Works_book ["self"] (SP_Works_book K Z)) {f_Works_gates : Addr} {fd_Works_gates : FuncData} (D_Works_gates : MDef K Z.Works "gates" "Works.gates" s_Works_gates ["self"] f_Works_gates fd_Works_gates) (G_Works_gates : FnOk P w K mg base CX0 2 f_Works_gates fd_Works_gates ["self"] (SP_Works_gates K Z)) {f_Works_now : Addr} {fd_Works_now : FuncData} (D_Works_now : MDef K Z.Works "now" "Works.now" s_Works_now ["self"] f_Works_now fd_Works_now) (G_Works_now : FnOk P w K mg base CX0 2 f_Works_now fd_Works_now ["self"] (SP_Works_now K Z)) : FnOk P w K mg base (CXf P w) 8 f fd ["_law_script"] (SP_law K Z) := by
  refine F.okF sc_law (fun vs H Q E h => ?_) (fun cdv A outer s H vs Q E hr h => ?_)
  · obtain ⟨a, ns, rfl, hS, hn, q⟩ := h
    rfl
  · obtain ⟨a, ns, rfl, hS, hn, q⟩ := h
    obtain ⟨t1, h1, k1⟩ : ∃ t, PSs (cxF P w K mg base ["_law_script", "_law_depths_here", "_law_codes_here", "_law_slow", "_law_fast", "_law_works", "_law_many", "_law_gates", "_law_rows", "_law_k", "_law_cell", "_law_wide", "_law_level", "_law_told", "_law_hit"] "law" (defScope s_law) f cdv A outer s H E) ((defBody s_law).drop 5) t ∧ ∀ (dl cl w bk rl gt wl : Addr) (slow fast : Int) (g : Cfg) (n0 : Snap) (H1 : Hp), Same H H1 → H rl = none → H gt = none → H wl = none → gt ≠ wl → CfgOk g → SnapOk g n0 → g.N gt → g.N wl → WAt (clZ Z) K H1 w bk rl g n0 [] → H1 gt = some (.lst (n0.gates.map V.bl)) → H1 wl = some (.lst []) → t ({ nx := fun _ H2 => Q .non H2, rt := Q } : Ends) [some (.ref a), some (.ref dl), some (.ref cl), some (.int slow), some (.int fast), some (.ref w), some (.int (g.ds.length : Nat)), some (.ref gt), some (.ref wl), none, none, none, none, none, none] H1 := by
      refine ⟨_, pss_cons (ps_for ownF rfl (pi_range2 (by rfl) T.g_range (pa_cons pe_int (pa_cons (pe_callB (call_min2 rfl) (by rfl) T.g_min bo_min (pa_cons (pe_callB call_len_seq (by rfl) T.g_len bo_len (pa_cons (pv 0) pa_nil)) (pa_cons pe_int pa_nil))) pa_nil))) (pg_name (i := 9) sc_law.nd rfl (Or.inl rfl)) (pss_cons (ps_set (i := 10) sc_law.nd rfl (Or.inl rfl) (pe_call G_l_mixed (hr.mono (by decide)) (by rfl) D_l_mixed.m D_l_mixed.F.kp D_l_mixed.b .nil pass0 (pa_cons (pv 0) (pa_cons (pv 9) pa_nil)))) (pss_cons (ps_set (i := 11) sc_law.nd rfl (Or.inl rfl) (pe_cmpR op_eq (pe_op op_mod (pv 10) pe_int) pe_int (nomark _))) (pss_cons (ps_set (i := 12) sc_law.nd rfl (Or.inl rfl) (pe_ix ix_list (pe_lst (pa_cons (pe_op op_sub (pe_op op_mod (pe_op op_fdiv (pv 10) pe_int) (pe_op op_add (pv 6) pe_int)) pe_int) (pa_cons (pe_op op_mod (pe_op op_fdiv (pv 10) pe_int) (pv 6)) (pa_cons (pe_op op_pow pe_int pe_int) pa_nil)))) (pe_op op_mod (pe_op op_mod (pe_op op_fdiv (pv 10) pe_int) pe_int) pe_int) (fun _ _ => rfl))) (pss_cons (ps_asg (pe_call G_l_turned (hr.mono (by decide)) (by rfl) D_l_turned.m D_l_turned.F.kp D_l_turned.b .nil pass0 (pa_cons (pv 5) (pa_cons (pv 11) (pa_cons (pv 12) pa_nil)))) (pg_lst rfl (pgs_cons (pg_name (i := 13) sc_law.nd rfl (Or.inl rfl)) (pgs_cons (pg_name (i := 14) sc_law.nd rfl (Or.inl rfl)) pgs_nil)))) (pss_cons (ps_if (pw_or (pt_cmpR op_lt (pv 12) pe_int (nomark _)) (pw_or1 (pt_cmpR op_ge (pv 12) (pv 6) (nomark _)))).pt (pss_one (ps_if (pt_cmpR (op_neL hr.units0) (pv 14) (pe_lst (pa_cons pe_bl (pa_cons pe_bl pa_nil))) (nomark _)) (pss_one (ps_ret pe_bl)) (pss_nil))) (pss_one (ps_if (pt_cmpR op_eq (pe_ix ix_list (pv 7) (pv 12) (fun _ _ => rfl)) (pv 11) (nomark _)) (pss_one (ps_if (pt_cmpR (op_neL hr.units0) (pv 14) (pe_lst (pa_cons pe_bl (pa_cons pe_bl pa_nil))) (nomark _)) (pss_one (ps_ret pe_bl)) (pss_nil))) (pss_cons (ps_asg (pv 11) (pg_sub (pv 7) (pv 12) set_list)) (pss_cons (ps_expr (pe_bm PySem.F.plainAttrs_list PySem.F.slot_list_append PySem.F.type_list_append mt_append (pv 8) (pa_cons (pe_tup (pa_cons (pe_callB call_len_seq (by rfl) T.g_len bo_len (pa_cons (pv 8) pa_nil)) (pa_cons (pe_op op_add (pe_callB call_len_seq (by rfl) T.g_len bo_len (pa_cons (pv 8) pa_nil)) pe_int) (pa_cons (pe_tup (pa_cons (pe_ix ix_list (pe_lst (pa_cons pe_str (pa_cons pe_str pa_nil))) (pe_callTy call_int1 (by rfl) T.g_int bo_int (pa_cons (pv 11) pa_nil)) (fun _ _ => rfl)) (pa_cons (pv 12) pa_nil))) pa_nil)))) pa_nil))) (pss_one (ps_if (pw_or (pt_cmpR (op_neL hr.units0) (pv 14) (pe_lst pa_nil) (nomark _)) (pw_or1 (pt_not (pt_val (pe_call G_l_same (hr.mono (by decide)) (by rfl) D_l_same.m D_l_same.F.kp D_l_same.b .nil pass0 (pa_cons (pv 13) (pa_cons (pe_callB call_len_seq (by rfl) T.g_len bo_len (pa_cons (pv 8) pa_nil)) pa_nil))))))).pt (pss_one (ps_ret pe_bl)) (pss_nil)))))))) (pss_one (ps_if (pw_or (pt_not (pt_val (pe_call G_l_same (hr.mono (by decide)) (by rfl) D_l_same.m D_l_same.F.kp D_l_same.b .nil pass0 (pa_cons (pe_meth0 (pv 5) T.cl_Works D_Works_gates.M G_Works_gates (hr.mono (by decide)) D_Works_gates.b .nil pass0) (pa_cons (pv 7) pa_nil))))) (pw_or1 (pt_not (pt_val (pe_call G_l_same (hr.mono (by decide)) (by rfl) D_l_same.m D_l_same.F.kp D_l_same.b .nil pass0 (pa_cons (pe_meth0 (pv 5) T.cl_Works D_Works_now.M G_Works_now (hr.mono (by decide)) D_Works_now.b .nil pass0) (pa_cons (pe_callB call_len_seq (by rfl) T.g_len bo_len (pa_cons (pv 8) pa_nil)) pa_nil))))))).pt (pss_one (ps_ret pe_bl)) (pss_nil))))))))) (pss_one (ps_ret (pe_and (pe_call G_l_same (hr.mono (by decide)) (by rfl) D_l_same.m D_l_same.F.kp D_l_same.b .nil pass0 (pa_cons (pe_meth0 (pv 5) T.cl_Works D_Works_book.M G_Works_book (hr.mono (by decide)) D_Works_book.b .nil pass0) (pa_cons (pv 8) pa_nil))) (pe_one (pe_call G_l_same (hr.mono (by decide)) (by rfl) D_l_same.m D_l_same.F.kp D_l_same.b .nil pass0 (pa_cons (pe_meth0 (pv 5) T.cl_Works D_Works_gates.M G_Works_gates (hr.mono (by decide)) D_Works_gates.b .nil pass0) (pa_cons (pv 7) pa_nil))))))), ?_⟩
      intro dl cl w bk rl gt wl slow fast g n0 H1 s1 fr fg fw ngw hg hn0 ng nw hW hgt hwl
      walk_at "rd"
      refine ⟨_, .inl (s1.seq hS), by omega, by rw [List.length_map]; split <;> omega, ?_⟩
      refine loop_range (iv_24 Z K H a dl cl slow fast w bk rl gt wl g n0) ⟨[], [], none, none, none, none, none, none, rfl, s1, hW, .nil, Nat.le_refl _, rfl, hgt, hwl, ToldAt.nil⟩ ?_ ?_
      · clear hW hgt hwl s1 H1
        rintro i σ H1 hi ⟨rs, as, t9, t10, t11, t12, t13, t14, rfl, s1, hW, hR, hlen, hnow, hgt, hwl, hT⟩
        rw [List.length_map] at hi
        have hi' : i < 58 := by split at hi <;> omega
        have hi2 : i + 5 < ns.length := by split at hi <;> omega
        have hsn := hR.snap hg hn0
        have l2 := hg.sh.l2
        have l6 := hg.sh.l6
        walk_at "rd"
        refine ⟨a, ns, _, rfl, s1.seq hS, by omega, by omega, fun c => ?_⟩
        walk_at "rd"
        refine ⟨by omega, by omega, by decide, by decide, fun pl hpl => ⟨_, SqL.of upd_same, ?_⟩⟩
        obtain ⟨lv, _, elv⟩ := atI_three (x := c / 2 % (↑g.ds.length + 2) - 1) (y := c / 2 % ↑g.ds.length) (z := 1000000000000000000000000000000) (i := c / 40 % 7 % 3) (by omega)
        refine ⟨_, elv, ?_⟩
        have sl := (Same.refl H1).lay (o := HO.lst [V.int (c / 2 % (↑g.ds.length + 2) - 1), V.int (c / 2 % ↑g.ds.length), V.int 1000000000000000000000000000000]) hpl
        generalize upd H1 pl (HO.lst [V.int (c / 2 % (↑g.ds.length + 2) - 1), V.int (c / 2 % ↑g.ds.length), V.int 1000000000000000000000000000000]) = H2 at *
        have lc := hg.lc
        generalize hb : decide (c % 2 = 0) = b
        refine ⟨w, bk, rl, g, n0, rs, b, lv, rfl, hW.same sl, by omega, hsn.wl.symm, hsn.gl, by omega, fun hu p h H3 s3 hp hh => ?_, fun h0 h1 hsame p h H3 s3 hp hh => ?_, fun h0 h1 hdiff p h H3 fh k3 hW3 hp hh => ?_⟩
        · walk_at "rd"
          refine ⟨_, SqL.of hp, rfl, _, _, rfl, _, _, rfl, rfl, ?_⟩
          walk_at "rd"
          have done : ∀ p2, H3 p2 = none → eqL [V.bl false, V.bl true] [V.bl false, V.bl true] = false → False := fun _ _ z => by cases z
          by_cases hl : lv < 0
          · rw [if_pos hl]
            refine ⟨by decide, fun p2 hp2 => ⟨_, SqL.of (upo hh hp2), _, SqL.of upd_same, rfl, rfl, ?_⟩⟩
            rw [if_neg (by decide)]
            have sz := (sl.trans s3).lay (o := HO.lst [V.bl false, V.bl true]) hp2
            have hWn := hW.same sz
            have hgtn := sz _ _ hgt
            have hwln := sz _ _ hwl
            have hTn := hT.same sz
            have smn := s1.trans sz
            have hnown := hnow
            have hlenn : rs.length ≤ i + 1 := by omega
            walk_at "rd"
            obtain ⟨dxw, dlw, glw, hobw, _⟩ := id hWn.ob
            refine ⟨_, _, hobw, rfl, _, _, _, _, _, _, rfl, hWn, fun p5 hp5 => ?_⟩
            walk_at "rd"
            have fl5 := (hR.snap hg hn0).gl
            refine ⟨_, _, _, rfl, rep_bools (SqL.of upd_same) (by omega), rep_bools (SqL.of (upo hgtn hp5)) (by omega), fun H6 s6 => ?_⟩
            walk_at "rd"
            have s56 := ((Same.refl _).lay hp5).trans s6
            have hWm := hWn.same s56
            obtain ⟨dxv, dlv, glv, hobv, _⟩ := id hWm.ob
            refine ⟨_, _, hobv, rfl, _, _, _, _, _, _, rfl, hWm, ?_⟩
            walk_at "rd"
            refine ⟨_, .inl (SqL.of (s56 _ _ hwln)), ?_⟩
            have hasn := hTn.1
            rw [List.length_map, hasn, hnown]
            refine ⟨_, _, .flat (.int (rs.length : Nat)), rfl, .flat rfl, .flat rfl, fun H7 s7 => ?_⟩
            walk_at "rd"
            have s57 := s56.trans s7
            exact ⟨_, _, _, _, _, _, _, _, rfl, smn.trans s57, hWm.same s7, hR, hlenn, hnown, s57 _ _ hgtn, s57 _ _ hwln, hTn.same s57⟩
          · rw [if_neg hl, if_pos (by omega)]
            refine ⟨by decide, fun p2 hp2 => ⟨_, SqL.of (upo hh hp2), _, SqL.of upd_same, rfl, rfl, ?_⟩⟩
            rw [if_neg (by decide)]
            have sz := (sl.trans s3).lay (o := HO.lst [V.bl false, V.bl true]) hp2
            have hWn := hW.same sz
            have hgtn := sz _ _ hgt
            have hwln := sz _ _ hwl
            have hTn := hT.same sz
            have smn := s1.trans sz
            have hnown := hnow
            have hlenn : rs.length ≤ i + 1 := by omega
            walk_at "rd"
            obtain ⟨dxw, dlw, glw, hobw, _⟩ := id hWn.ob
            refine ⟨_, _, hobw, rfl, _, _, _, _, _, _, rfl, hWn, fun p5 hp5 => ?_⟩
            walk_at "rd"
            have fl5 := (hR.snap hg hn0).gl
            refine ⟨_, _, _, rfl, rep_bools (SqL.of upd_same) (by omega), rep_bools (SqL.of (upo hgtn hp5)) (by omega), fun H6 s6 => ?_⟩
            walk_at "rd"
            have s56 := ((Same.refl _).lay hp5).trans s6
            have hWm := hWn.same s56
            obtain ⟨dxv, dlv, glv, hobv, _⟩ := id hWm.ob
            refine ⟨_, _, hobv, rfl, _, _, _, _, _, _, rfl, hWm, ?_⟩
            walk_at "rd"
            refine ⟨_, .inl (SqL.of (s56 _ _ hwln)), ?_⟩
            have hasn := hTn.1
            rw [List.length_map, hasn, hnown]
            refine ⟨_, _, .flat (.int (rs.length : Nat)), rfl, .flat rfl, .flat rfl, fun H7 s7 => ?_⟩
            walk_at "rd"
            have s57 := s56.trans s7
            exact ⟨_, _, _, _, _, _, _, _, rfl, smn.trans s57, hWm.same s7, hR, hlenn, hnown, s57 _ _ hgtn, s57 _ _ hwln, hTn.same s57⟩
        · walk_at "rd"
          refine ⟨_, SqL.of hp, rfl, _, _, rfl, _, _, rfl, rfl, ?_⟩
          walk_at "rd"
          rw [if_neg (by omega), if_neg (by omega)]
          have glq := hsn.gl
          refine ⟨_, SqL.of ((sl.trans s3) _ _ hgt), _, atI_bl h0 (by omega), rfl, ?_⟩
          rw [hsame, if_pos rfl]
          refine ⟨by decide, fun p2 hp2 => ⟨_, SqL.of (upo hh hp2), _, SqL.of upd_same, rfl, rfl, ?_⟩⟩
          rw [if_neg (by decide)]
          have sz := (sl.trans s3).lay (o := HO.lst [V.bl true, V.bl false]) hp2
          have hWn := hW.same sz
          have hgtn := sz _ _ hgt
          have hwln := sz _ _ hwl
          have hTn := hT.same sz
          have smn := s1.trans sz
          have hnown := hnow
          have hlenn : rs.length ≤ i + 1 := by omega
          walk_at "rd"
          obtain ⟨dxw, dlw, glw, hobw, _⟩ := id hWn.ob
          refine ⟨_, _, hobw, rfl, _, _, _, _, _, _, rfl, hWn, fun p5 hp5 => ?_⟩
          walk_at "rd"
          have fl5 := (hR.snap hg hn0).gl
          refine ⟨_, _, _, rfl, rep_bools (SqL.of upd_same) (by omega), rep_bools (SqL.of (upo hgtn hp5)) (by omega), fun H6 s6 => ?_⟩
          walk_at "rd"
          have s56 := ((Same.refl _).lay hp5).trans s6
          have hWm := hWn.same s56
          obtain ⟨dxv, dlv, glv, hobv, _⟩ := id hWm.ob
          refine ⟨_, _, hobv, rfl, _, _, _, _, _, _, rfl, hWm, ?_⟩
          walk_at "rd"
          refine ⟨_, .inl (SqL.of (s56 _ _ hwln)), ?_⟩
          have hasn := hTn.1
          rw [List.length_map, hasn, hnown]
          refine ⟨_, _, .flat (.int (rs.length : Nat)), rfl, .flat rfl, .flat rfl, fun H7 s7 => ?_⟩
          walk_at "rd"
          have s57 := s56.trans s7
          exact ⟨_, _, _, _, _, _, _, _, rfl, smn.trans s57, hWm.same s7, hR, hlenn, hnown, s57 _ _ hgtn, s57 _ _ hwln, hTn.same s57⟩
        · walk_at "rd"
          refine ⟨_, SqL.of hp, rfl, _, _, rfl, _, _, rfl, rfl, ?_⟩
          walk_at "rd"
          rw [if_neg (by omega), if_neg (by omega)]
          have glq := hsn.gl
          have hoff := hW.off
          have hgt3 := k3 _ _ (hoff gt ng).symm (sl _ _ hgt)
          have hwl3 := k3 _ _ (hoff wl nw).symm (sl _ _ hwl)
          obtain ⟨asr, hrl1⟩ := hW.rows
          have hT3 := (hT.same sl).keep k3 (sl _ _ hrl1)
          have s13 : Same H H3 := (s1.trans sl).keeps k3 fr
          refine ⟨_, SqL.of hgt3, _, atI_bl h0 (by omega), rfl, ?_⟩
          rw [hdiff, if_neg (by cases b <;> decide)]
          refine ⟨_, hgt3, _, ixN_ok h0 (by rw [List.length_map]; omega), ?_⟩
          have k4 : L2.Keeps gt H3 (upd H3 gt (HO.lst (((lastSn n0 rs).gates.map V.bl).set lv.toNat (V.bl b)))) := (Keeps.of (Same.refl H3)).put
          have hgt4 : upd H3 gt (HO.lst (((lastSn n0 rs).gates.map V.bl).set lv.toNat (V.bl b))) gt = some (HO.lst (((lastSn n0 rs).gates.map V.bl).set lv.toNat (V.bl b))) := upd_same
          generalize upd H3 gt (HO.lst (((lastSn n0 rs).gates.map V.bl).set lv.toNat (V.bl b))) = H4 at *
          have hW4 := hW3.own ng k4 hgt4
          have hwl4 := k4 _ _ ngw.symm hwl3
          have hT4 := hT3.keep k4 hgt3
          have s14 : Same H H4 := s13.keeps k4 fg
          have hh4 : H4 h = some (HO.lst []) := k4 _ _ (ne_of_none (sl _ _ hgt) fh).symm hh
          have nhw : h ≠ wl := (ne_of_none (sl _ _ hwl) fh).symm
          have hasl := hT.1
          walk_at "rd"
          have eb : (if c % 2 = 0 then (1 : Int) else 0) = (if b = true then 1 else 0) := by rw [← hb]; simp
          rw [eb]
          refine ⟨.inl ⟨rfl, _, SqL.of hwl4⟩, _, .inl (SqL.of hwl4), _, .inl (SqL.of hwl4), by decide, fun p1 hp1 => .inr ⟨_, SqL.of upd_same, _, word24, by decide, fun p2 hp2 => ⟨by decide, fun p3 hp3 => ?_⟩⟩⟩
          rw [List.length_map, hasl]
          have s5 := (((Same.refl H4).lay (o := HO.lst [V.str (Str.ofString "shut"), V.str (Str.ofString "open")]) hp1).lay (o := HO.tup [V.str (if b = true then "open" else "shut"), V.int lv]) hp2).lay (o := HO.tup [V.int (rs.length : Nat), V.int ((rs.length : Nat) + 1), V.ref p2]) hp3
          have hd5 : ToldRow K (upd (upd (upd H4 p1 (HO.lst [V.str (Str.ofString "shut"), V.str (Str.ofString "open")])) p2 (HO.tup [V.str (if b = true then "open" else "shut"), V.int lv])) p3 (HO.tup [V.int (rs.length : Nat), V.int ((rs.length : Nat) + 1), V.ref p2])) p3 (rowOf g n0 rs (if b = true then .opn lv else .sht lv)) := by
            refine ⟨p2, SqT.of ?_, SqT.of ?_⟩
            · rw [upd_same]
              have et : ticksD g (lastSn n0 rs) (if b = true then Dd.opn lv else Dd.sht lv) = 1 := by cases b <;> rfl
              simp only [rowOf, et, hnow]
            · rw [upo upd_same hp3]
              cases b <;> rfl
          generalize upd (upd (upd H4 p1 (HO.lst [V.str (Str.ofString "shut"), V.str (Str.ofString "open")])) p2 (HO.tup [V.str (if b = true then "open" else "shut"), V.int lv])) p3 (HO.tup [V.int (rs.length : Nat), V.int ((rs.length : Nat) + 1), V.ref p2]) = H5 at *
          have hwl5 := s5 _ _ hwl4
          refine ⟨_, hwl5, small1000 (by rw [List.length_map]; omega), by decide, fun p4 hp4 => ?_⟩
          have k6 : L2.Keeps wl H5 (upd H5 wl (HO.lst (as.map V.ref ++ [V.ref p3]))) := (Keeps.of (Same.refl H5)).put
          have hwl6 : upd H5 wl (HO.lst (as.map V.ref ++ [V.ref p3])) wl = some (HO.lst ((as ++ [p3]).map V.ref)) := by rw [upd_same, List.map_append]; rfl
          generalize upd H5 wl (HO.lst (as.map V.ref ++ [V.ref p3])) = H6 at *
          have hh6 := k6 _ _ nhw (s5 _ _ hh4)
          refine ⟨_, SqL.of (upo hh6 hp4), _, SqL.of upd_same, rfl, rfl, ?_⟩
          rw [if_neg (by decide)]
          refine ⟨_, .inl (SqL.of (upo hwl6 hp4)), ?_⟩
          rw [List.length_map, List.length_append, List.length_singleton, hasl, hnow]
          refine ⟨_, _, .flat (.int ((rs.length + 1 : Nat) : Int)), rfl, .flat rfl, .flat rfl, fun H8 s8 => ?_⟩
          have sw := ((Same.refl H6).lay (o := HO.lst []) hp4).trans s8
          have hWn := ((hW4.same s5).own nw k6 hwl6).same sw
          have hdn : lastSn n0 (rs ++ [rowOf g n0 rs (if b = true then .opn lv else .sht lv)]) = nextD g (lastSn n0 rs) (if b = true then .opn lv else .sht lv) := lastSn_last ..
          have hgtn : H8 gt = some (HO.lst ((lastSn n0 (rs ++ [rowOf g n0 rs (if b = true then .opn lv else .sht lv)])).gates.map V.bl)) := by
            rw [hdn, sw _ _ (k6 _ _ ngw (s5 _ _ hgt4))]
            rw [← List.map_set]
            cases b <;> rfl
          have hwln := sw _ _ hwl6
          have hTn := (((hT4.same s5).push hd5).keep k6 hwl5).same sw
          have smn : Same H H8 := ((s14.trans s5).keeps k6 fw).trans sw
          have RN : Run g n0 (rs ++ [rowOf g n0 rs (if b = true then .opn lv else .sht lv)]) := hR.snoc (by cases b <;> trivial) (by
            cases b
            · show (if unk lv g.ds.length then some Rw.lv else if (lastSn n0 rs).gates.getD lv.toNat false = false then some Rw.ch else none) = none
              rw [if_neg (show ¬ unk lv g.ds.length from fun z => z ⟨h0, h1⟩), hdiff]; rfl
            · show (if unk lv g.ds.length then some Rw.lv else if (lastSn n0 rs).gates.getD lv.toNat false = true then some Rw.ch else none) = none
              rw [if_neg (show ¬ unk lv g.ds.length from fun z => z ⟨h0, h1⟩), hdiff]; rfl)
          have hnown : nowF (rs ++ [rowOf g n0 rs (if b = true then .opn lv else .sht lv)]) = ((rs ++ [rowOf g n0 rs (if b = true then .opn lv else .sht lv)]).length : Nat) := by
            rw [nowF_last, List.length_append, List.length_singleton]
            have et : ticksD g (lastSn n0 rs) (if b = true then Dd.opn lv else Dd.sht lv) = 1 := by cases b <;> rfl
            simp only [rowOf, et, hnow]
            omega
          have hlenn : (rs ++ [rowOf g n0 rs (if b = true then .opn lv else .sht lv)]).length ≤ i + 1 := by rw [List.length_append, List.length_singleton]; omega
          walk_at "rd"
          obtain ⟨dxw, dlw, glw, hobw, _⟩ := id hWn.ob
          refine ⟨_, _, hobw, rfl, _, _, _, _, _, _, rfl, hWn, fun p5 hp5 => ?_⟩
          walk_at "rd"
          have fl5 := (RN.snap hg hn0).gl
          refine ⟨_, _, _, rfl, rep_bools (SqL.of upd_same) (by omega), rep_bools (SqL.of (upo hgtn hp5)) (by omega), fun H6 s6 => ?_⟩
          walk_at "rd"
          have s56 := ((Same.refl _).lay hp5).trans s6
          have hWm := hWn.same s56
          obtain ⟨dxv, dlv, glv, hobv, _⟩ := id hWm.ob
          refine ⟨_, _, hobv, rfl, _, _, _, _, _, _, rfl, hWm, ?_⟩
          walk_at "rd"
          refine ⟨_, .inl (SqL.of (s56 _ _ hwln)), ?_⟩
          have hasn := hTn.1
          rw [List.length_map, hasn, hnown]
          refine ⟨_, _, .flat (.int ((rs ++ [rowOf g n0 rs (if b = true then .opn lv else .sht lv)]).length : Nat)), rfl, .flat rfl, .flat rfl, fun H7 s7 => ?_⟩
          walk_at "rd"
          have s57 := s56.trans s7
          exact ⟨_, _, _, _, _, _, _, _, rfl, smn.trans s57, hWm.same s7, RN, hlenn, hnown, s57 _ _ hgtn, s57 _ _ hwln, hTn.same s57⟩
      · rintro σ H1 ⟨rs, as, t9, t10, t11, t12, t13, t14, rfl, s1, hW, hR, hlen, hnow, hgt, hwl, hT⟩
        rw [List.length_map] at hlen
        have hrs : rs.length ≤ 58 := by split at hlen <;> omega
        walk_at "rd"
        obtain ⟨dxw, dlw, glw, hobw, _⟩ := id hW.ob
        refine ⟨_, _, hobw, rfl, _, _, _, _, _, _, rfl, hW, by omega, fun p as' H2 hp s2 hp2 hT2 => ?_⟩
        walk_at "rd"
        refine ⟨_, _, _, rfl, rep_told (SqL.of hp2) hT2 hR.deeds (by omega), rep_told (SqL.of (s2 _ _ hwl)) (hT.same s2) hR.deeds (by omega), fun H3 s3 => ?_⟩
        walk_at "rd"
        have s23 := s2.trans s3
        have hW3 := hW.same s23
        obtain ⟨dxw, dlw, glw, hobw, _⟩ := id hW3.ob
        refine ⟨_, _, hobw, rfl, _, _, _, _, _, _, rfl, hW3, fun p5 hp5 => ?_⟩
        walk_at "rd"
        have fl5 := (hR.snap hg hn0).gl
        have l6 := hg.sh.l6
        refine ⟨_, _, _, rfl, rep_bools (SqL.of upd_same) (by omega), rep_bools (SqL.of (upo (s23 _ _ hgt) hp5)) (by omega), fun H6 s6 => ?_⟩
        exact q _
    refine ⟨_, pss_cons (ps_asg (pe_call G_l_shaft (hr.mono (by decide)) (by rfl) D_l_shaft.m D_l_shaft.F.kp D_l_shaft.b .nil pass0 (pa_cons (pv 0) pa_nil)) (pg_lst rfl (pgs_cons (pg_name (i := 1) sc_law.nd rfl (Or.inl rfl)) (pgs_cons (pg_name (i := 2) sc_law.nd rfl (Or.inl rfl)) (pgs_cons (pg_name (i := 3) sc_law.nd rfl (Or.inl rfl)) (pgs_cons (pg_name (i := 4) sc_law.nd rfl (Or.inl rfl)) pgs_nil)))))) (pss_cons (ps_set (i := 5) sc_law.nd rfl (Or.inl rfl) (pe_make D_Works_init.M G_Works_init (hr.mono (by decide)) (by rfl) T.m_Works D_Works_init.b .nil passF (pa_cons (pe_callTy call_list_of (by rfl) T.g_list bo_list (pa_cons (pv 1) pa_nil)) (pa_cons (pe_callTy call_list_of (by rfl) T.g_list bo_list (pa_cons (pv 2) pa_nil)) (pa_cons (pv 3) (pa_cons (pv 4) (pa_cons (pe_lst pa_nil) pa_nil))))))) (pss_cons (ps_set (i := 6) sc_law.nd rfl (Or.inl rfl) (pe_callB call_len_seq (by rfl) T.g_len bo_len (pa_cons (pv 1) pa_nil))) (pss_cons (ps_set (i := 7) sc_law.nd rfl (Or.inl rfl) (pe_op op_rep (pe_lst (pa_cons pe_bl pa_nil)) (pv 6))) (pss_cons (ps_set (i := 8) sc_law.nd rfl (Or.inl rfl) (pe_lst pa_nil)) (h1))))), ?_⟩
    walk_at "rd"
    refine ⟨a, ns, rfl, hS, fun p dl cl ds as0 ls slow fast H1 s1 hpn hdn hcn ndc hp hdl hsh hcl hT hlen hg hsp => ?_⟩
    have l2 := hsh.l2
    have l6 := hsh.l6
    walk_at "rd"
    refine ⟨_, SqL.of hp, rfl, _, _, rfl, _, _, rfl, _, _, rfl, _, _, rfl, rfl, ?_⟩
    walk_at "rd"
    refine ⟨_, .inl (SqL.of hdl), fun p1 hp1 => ⟨_, .inl (SqL.of (upo hcl hp1)), fun p2 hp2 => ⟨by decide, fun p3 hp3 => ?_⟩⟩⟩
    have s2 := ((((Same.refl H1).lay (o := HO.lst (ds.map V.int)) hp1).lay (o := HO.lst (as0.map V.ref)) hp2).lay (o := HO.lst []) hp3)
    have q1 : upd (upd (upd H1 p1 (HO.lst (ds.map V.int))) p2 (HO.lst (as0.map V.ref))) p3 (HO.lst []) p1 = some (HO.lst (ds.map V.int)) := upo (upo upd_same hp2) hp3
    have q2 : upd (upd (upd H1 p1 (HO.lst (ds.map V.int))) p2 (HO.lst (as0.map V.ref))) p3 (HO.lst []) p2 = some (HO.lst (as0.map V.ref)) := upo upd_same hp3
    have q3 : upd (upd (upd H1 p1 (HO.lst (ds.map V.int))) p2 (HO.lst (as0.map V.ref))) p3 (HO.lst []) p3 = some (HO.lst []) := upd_same
    generalize upd (upd (upd H1 p1 (HO.lst (ds.map V.int))) p2 (HO.lst (as0.map V.ref))) p3 (HO.lst []) = H2 at *
    refine fun x dx hx hdx nxd => ?_
    have hx' : upd H2 dx (.own x) x = none := by rw [upd_ne (Ne.symm nxd)]; exact hx
    have sx := ((Same.refl H2).lay (o := HO.own x) hdx).lay (o := HO.ins Z.Works dx []) hx'
    refine ⟨x, dx, p1, p2, p3, ds, ls, [], slow, fast, fun _ => False, rfl, upd_same, sx.seq (SqL.of q1), ⟨as0, sx.seq (SqL.of q2), (hT.same s2).same sx⟩, ⟨[], sx.seq (SqL.of q3), Tups.nil⟩, by omega, by omega, by decide, fun p hp => hp.elim, fun h => absurd hsh h, fun _ h => absurd ⟨by omega, hg⟩ h, fun _ _ h => absurd hsp h, fun _ _ _ h => absurd ⟨by decide, fun x hx => by cases hx⟩ h, fun _ _ _ _ bk rl H3 kx hrl hW => ⟨rfl, ?_⟩⟩
    have s3 := madeSame hx hdx kx
    have frl : H2 rl = none := madeFree hrl
    clear kx hrl sx
    have s13 := s2.trans s3
    walk_at "rd"
    refine ⟨_, .inl (SqL.of (s13 _ _ hdl)), ?_⟩
    rw [List.length_map]
    refine ⟨by decide, fun p4 hp4 => ⟨_, upd_same, by omega, by omega, by rw [sizeLine_eq]; show 1 * _ ≤ _; omega, fun gt hgt => ⟨by decide, fun wl hwl => ?_⟩⟩⟩
    have s4 := (Same.refl H3).lay (o := HO.lst [V.bl false]) hp4
    have s5 := s4.lay (o := HO.lst (List.replicate ((ds.length : Nat) : Int).toNat [V.bl false]).flatten) hgt
    have s6 := s5.lay (o := HO.lst []) hwl
    have hW5 := (hW.same s4).grow hgt ((Same.refl _).lay (o := HO.lst (List.replicate ((ds.length : Nat) : Int).toNat [V.bl false]).flatten) hgt) upd_same
    have hW6 := hW5.grow hwl ((Same.refl _).lay (o := HO.lst []) hwl) upd_same
    have e5 : (List.replicate ((ds.length : Nat) : Int).toNat [V.bl false]).flatten = (snap0 ds ls []).gates.map V.bl := by
      simp only [snap0, List.map_map, Int.toNat_natCast]
      rw [rep_one]
      exact (List.map_const' (l := ds) (b := V.bl false)).symm
    have f5 := s4.free hgt
    have f6 := s5.free hwl
    refine k1 dl cl x bk rl gt wl slow fast _ (snap0 ds ls []) _ ((s1.trans s13).trans s6) (s1.free (s2.free frl)) (s1.free (s13.free f5)) (s1.free (s13.free f6)) (ne_of_none upd_same hwl) (((cfg_ok hsh hlen hg hsp (by decide)).plus gt).plus wl) (((snap_ok hsh hlen (fun x hx => by cases hx)).plus gt).plus wl) (.inl (.inr rfl)) (.inr rfl) hW6 ?_ upd_same
    rw [← e5]
    exact upo upd_same hwl
theorem ok_law {f : Addr} {fd : FuncData} (F : Fun K "law" "law" s_law f fd) (T : Txt K mg Z) {f_l_shaft : Addr} {fd_l_shaft : FuncData} (D_l_shaft : Def K mg "_law_shaft" s_l_shaft ["_law_script"] f_l_shaft fd_l_shaft) (G_l_shaft : FnOk P w K mg base CX0 3 f_l_shaft fd_l_shaft ["_law_script"] (SP_l_shaft K Z)) {f_Works_init : Addr} {fd_Works_init : FuncData} (D_Works_init : IDef K Z.Works "Works.__init__" s_Works_init ["self", "depths", "codes", "slow", "fast", "loads"] f_Works_init fd_Works_init) (G_Works_init : FnOk P w K mg base (CXf P w) 3 f_Works_init fd_Works_init ["self", "depths", "codes", "slow", "fast", "loads"] (SP_Works_init K Z)) {f_l_mixed : Addr} {fd_l_mixed : FuncData} (D_l_mixed : Def K mg "_law_mixed" s_l_mixed ["_law_script", "_law_k"] f_l_mixed fd_l_mixed) (G_l_mixed : FnOk P w K mg base CX0 1 f_l_mixed fd_l_mixed ["_law_script", "_law_k"] (SP_l_mixed K Z)) {f_l_turned : Addr} {fd_l_turned : FuncData} (D_l_turned : Def K mg "_law_turned" s_l_turned ["_law_works", "_law_wide", "_law_level"] f_l_turned fd_l_turned) (G_l_turned : FnOk P w K mg base CX0 7 f_l_turned fd_l_turned ["_law_works", "_law_wide", "_law_level"] (SP_l_turned K Z)) {f_l_same : Addr} {fd_l_same : FuncData} (D_l_same : Def K mg "_law_same" s_l_same ["_law_found", "_law_due"] f_l_same fd_l_same) (G_l_same : FnOk P w K mg base CX0 5 f_l_same fd_l_same ["_law_found", "_law_due"] (SP_l_same K Z)) {f_Works_book : Addr} {fd_Works_book : FuncData} (D_Works_book : MDef K Z.Works "book" "Works.book" s_Works_book ["self"] f_Works_book fd_Works_book) (G_Works_book : FnOk P w K mg base CX0 2 f_Works_book fd_Works_book ["self"] (SP_Works_book K Z)) {f_Works_gates : Addr} {fd_Works_gates : FuncData} (D_Works_gates : MDef K Z.Works "gates" "Works.gates" s_Works_gates ["self"] f_Works_gates fd_Works_gates) (G_Works_gates : FnOk P w K mg base CX0 2 f_Works_gates fd_Works_gates ["self"] (SP_Works_gates K Z)) {f_Works_now : Addr} {fd_Works_now : FuncData} (D_Works_now : MDef K Z.Works "now" "Works.now" s_Works_now ["self"] f_Works_now fd_Works_now) (G_Works_now : FnOk P w K mg base CX0 2 f_Works_now fd_Works_now ["self"] (SP_Works_now K Z)) : FnOk P w K mg base CX0 8 f fd ["_law_script"] (SP_law K Z) := (o0_law F T D_l_shaft G_l_shaft D_Works_init G_Works_init D_l_mixed G_l_mixed D_l_turned G_l_turned D_l_same G_l_same D_Works_book G_Works_book D_Works_gates G_Works_gates D_Works_now G_Works_now).calm fun vs H Q E h => h
end
theorem all_mk {l : PySem.W.OpenLaw} {w : World} {K : PySem.W.Frag} {h : Heap} {mg : Str → Option Value} {fa : Addr} (X : K.In h) (G : h.Ns mainGlobals mg) (hfa : mg "law" = some (.ref fa))
    {C_UnknownLevel : Addr}
    {C_UnknownLoad : Addr}
    {C_BadLoads : Addr}
    {C_BadCodes : Addr}
    {C_BadDepths : Addr}
    {C_BadSpeeds : Addr}
    {C_BookFull : Addr}
    {C_NoChange : Addr}
    {C_CageError : Addr}
    {C_Yard : Addr}
    {C_Bells : Addr}
    {C_Standing : Addr}
    {C_Book : Addr}
    {C_Works : Addr}
    {f_is_known : Addr} {od_is_known an_is_known : Option Addr} {sl_is_known : Array (Option Value)} {oc_is_known kV_is_known dc_is_known pm_is_known cd_is_known ct_is_known : Value}
    {f_check_level : Addr} {od_check_level an_check_level : Option Addr} {sl_check_level : Array (Option Value)} {oc_check_level kV_check_level dc_check_level pm_check_level cd_check_level ct_check_level : Value}
    {f_check_load : Addr} {od_check_load an_check_load : Option Addr} {sl_check_load : Array (Option Value)} {oc_check_load kV_check_load dc_check_load pm_check_load cd_check_load ct_check_load : Value}
    {f_check_loads : Addr} {od_check_loads an_check_loads : Option Addr} {sl_check_loads : Array (Option Value)} {oc_check_loads kV_check_loads dc_check_loads pm_check_loads cd_check_loads ct_check_loads : Value}
    {f_Yard_init : Addr} {od_Yard_init an_Yard_init : Option Addr} {sl_Yard_init : Array (Option Value)} {oc_Yard_init kV_Yard_init dc_Yard_init pm_Yard_init cd_Yard_init ct_Yard_init : Value}
    {f_Yard_men_aboard : Addr} {od_Yard_men_aboard an_Yard_men_aboard : Option Addr} {sl_Yard_men_aboard : Array (Option Value)} {oc_Yard_men_aboard kV_Yard_men_aboard dc_Yard_men_aboard pm_Yard_men_aboard cd_Yard_men_aboard ct_Yard_men_aboard : Value}
    {f_Yard_twin : Addr} {od_Yard_twin an_Yard_twin : Option Addr} {sl_Yard_twin : Array (Option Value)} {oc_Yard_twin kV_Yard_twin dc_Yard_twin pm_Yard_twin cd_Yard_twin ct_Yard_twin : Value}
    {f_are_strokes : Addr} {od_are_strokes an_are_strokes : Option Addr} {sl_are_strokes : Array (Option Value)} {oc_are_strokes kV_are_strokes dc_are_strokes pm_are_strokes cd_are_strokes ct_are_strokes : Value}
    {f_check_codes : Addr} {od_check_codes an_check_codes : Option Addr} {sl_check_codes : Array (Option Value)} {oc_check_codes kV_check_codes dc_check_codes pm_check_codes cd_check_codes ct_check_codes : Value}
    {f_Bells_init : Addr} {od_Bells_init an_Bells_init : Option Addr} {sl_Bells_init : Array (Option Value)} {oc_Bells_init kV_Bells_init dc_Bells_init pm_Bells_init cd_Bells_init ct_Bells_init : Value}
    {f_Bells_twin : Addr} {od_Bells_twin an_Bells_twin : Option Addr} {sl_Bells_twin : Array (Option Value)} {oc_Bells_twin kV_Bells_twin dc_Bells_twin pm_Bells_twin cd_Bells_twin ct_Bells_twin : Value}
    {f_check_depths : Addr} {od_check_depths an_check_depths : Option Addr} {sl_check_depths : Array (Option Value)} {oc_check_depths kV_check_depths dc_check_depths pm_check_depths cd_check_depths ct_check_depths : Value}
    {f_drum_whole : Addr} {od_drum_whole an_drum_whole : Option Addr} {sl_drum_whole : Array (Option Value)} {oc_drum_whole kV_drum_whole dc_drum_whole pm_drum_whole cd_drum_whole ct_drum_whole : Value}
    {f_other_place : Addr} {od_other_place an_other_place : Option Addr} {sl_other_place : Array (Option Value)} {oc_other_place kV_other_place dc_other_place pm_other_place cd_other_place ct_other_place : Value}
    {f_level_at : Addr} {od_level_at an_level_at : Option Addr} {sl_level_at : Array (Option Value)} {oc_level_at kV_level_at dc_level_at pm_level_at cd_level_at ct_level_at : Value}
    {f_check_speeds : Addr} {od_check_speeds an_check_speeds : Option Addr} {sl_check_speeds : Array (Option Value)} {oc_check_speeds kV_check_speeds dc_check_speeds pm_check_speeds cd_check_speeds ct_check_speeds : Value}
    {f_Standing_init : Addr} {od_Standing_init an_Standing_init : Option Addr} {sl_Standing_init : Array (Option Value)} {oc_Standing_init kV_Standing_init dc_Standing_init pm_Standing_init cd_Standing_init ct_Standing_init : Value}
    {f_Standing_twin : Addr} {od_Standing_twin an_Standing_twin : Option Addr} {sl_Standing_twin : Array (Option Value)} {oc_Standing_twin kV_Standing_twin dc_Standing_twin pm_Standing_twin cd_Standing_twin ct_Standing_twin : Value}
    {f_Book_init : Addr} {od_Book_init an_Book_init : Option Addr} {sl_Book_init : Array (Option Value)} {oc_Book_init kV_Book_init dc_Book_init pm_Book_init cd_Book_init ct_Book_init : Value}
    {f_Book_write : Addr} {od_Book_write an_Book_write : Option Addr} {sl_Book_write : Array (Option Value)} {oc_Book_write kV_Book_write dc_Book_write pm_Book_write cd_Book_write ct_Book_write : Value}
    {f_Book_now : Addr} {od_Book_now an_Book_now : Option Addr} {sl_Book_now : Array (Option Value)} {oc_Book_now kV_Book_now dc_Book_now pm_Book_now cd_Book_now ct_Book_now : Value}
    {f_Book_latest : Addr} {od_Book_latest an_Book_latest : Option Addr} {sl_Book_latest : Array (Option Value)} {oc_Book_latest kV_Book_latest dc_Book_latest pm_Book_latest cd_Book_latest ct_Book_latest : Value}
    {f_Book_told : Addr} {od_Book_told an_Book_told : Option Addr} {sl_Book_told : Array (Option Value)} {oc_Book_told kV_Book_told dc_Book_told pm_Book_told cd_Book_told ct_Book_told : Value}
    {f_Works_init : Addr} {od_Works_init an_Works_init : Option Addr} {sl_Works_init : Array (Option Value)} {oc_Works_init kV_Works_init dc_Works_init pm_Works_init cd_Works_init ct_Works_init : Value}
    {f_Works_open_gate : Addr} {od_Works_open_gate an_Works_open_gate : Option Addr} {sl_Works_open_gate : Array (Option Value)} {oc_Works_open_gate kV_Works_open_gate dc_Works_open_gate pm_Works_open_gate cd_Works_open_gate ct_Works_open_gate : Value}
    {f_Works_shut_gate : Addr} {od_Works_shut_gate an_Works_shut_gate : Option Addr} {sl_Works_shut_gate : Array (Option Value)} {oc_Works_shut_gate kV_Works_shut_gate dc_Works_shut_gate pm_Works_shut_gate cd_Works_shut_gate ct_Works_shut_gate : Value}
    {f_Works_turn_gate : Addr} {od_Works_turn_gate an_Works_turn_gate : Option Addr} {sl_Works_turn_gate : Array (Option Value)} {oc_Works_turn_gate kV_Works_turn_gate dc_Works_turn_gate pm_Works_turn_gate cd_Works_turn_gate ct_Works_turn_gate : Value}
    {f_Works_write : Addr} {od_Works_write an_Works_write : Option Addr} {sl_Works_write : Array (Option Value)} {oc_Works_write kV_Works_write dc_Works_write pm_Works_write cd_Works_write ct_Works_write : Value}
    {f_Works_speed_with : Addr} {od_Works_speed_with an_Works_speed_with : Option Addr} {sl_Works_speed_with : Array (Option Value)} {oc_Works_speed_with kV_Works_speed_with dc_Works_speed_with pm_Works_speed_with cd_Works_speed_with ct_Works_speed_with : Value}
    {f_Works_now : Addr} {od_Works_now an_Works_now : Option Addr} {sl_Works_now : Array (Option Value)} {oc_Works_now kV_Works_now dc_Works_now pm_Works_now cd_Works_now ct_Works_now : Value}
    {f_Works_book : Addr} {od_Works_book an_Works_book : Option Addr} {sl_Works_book : Array (Option Value)} {oc_Works_book kV_Works_book dc_Works_book pm_Works_book cd_Works_book ct_Works_book : Value}
    {f_Works_gates : Addr} {od_Works_gates an_Works_gates : Option Addr} {sl_Works_gates : Array (Option Value)} {oc_Works_gates kV_Works_gates dc_Works_gates pm_Works_gates cd_Works_gates ct_Works_gates : Value}
    {f_l_at : Addr} {od_l_at an_l_at : Option Addr} {sl_l_at : Array (Option Value)} {oc_l_at kV_l_at dc_l_at pm_l_at cd_l_at ct_l_at : Value}
    {f_l_draw : Addr} {od_l_draw an_l_draw : Option Addr} {sl_l_draw : Array (Option Value)} {oc_l_draw kV_l_draw dc_l_draw pm_l_draw cd_l_draw ct_l_draw : Value}
    {f_l_mixed : Addr} {od_l_mixed an_l_mixed : Option Addr} {sl_l_mixed : Array (Option Value)} {oc_l_mixed kV_l_mixed dc_l_mixed pm_l_mixed cd_l_mixed ct_l_mixed : Value}
    {f_l_same : Addr} {od_l_same an_l_same : Option Addr} {sl_l_same : Array (Option Value)} {oc_l_same kV_l_same dc_l_same pm_l_same cd_l_same ct_l_same : Value}
    {f_l_depths : Addr} {od_l_depths an_l_depths : Option Addr} {sl_l_depths : Array (Option Value)} {oc_l_depths kV_l_depths dc_l_depths pm_l_depths cd_l_depths ct_l_depths : Value}
    {f_l_codes : Addr} {od_l_codes an_l_codes : Option Addr} {sl_l_codes : Array (Option Value)} {oc_l_codes kV_l_codes dc_l_codes pm_l_codes cd_l_codes ct_l_codes : Value}
    {f_l_shaft : Addr} {od_l_shaft an_l_shaft : Option Addr} {sl_l_shaft : Array (Option Value)} {oc_l_shaft kV_l_shaft dc_l_shaft pm_l_shaft cd_l_shaft ct_l_shaft : Value}
    {f_l_turned : Addr} {od_l_turned an_l_turned : Option Addr} {sl_l_turned : Array (Option Value)} {oc_l_turned kV_l_turned dc_l_turned pm_l_turned cd_l_turned ct_l_turned : Value}
    {f_law : Addr} {od_law an_law : Option Addr} {sl_law : Array (Option Value)} {oc_law kV_law dc_law pm_law cd_law ct_law : Value}
    {tk_MOST_LOADS : Tok}
    {tk_FEWEST_STROKES : Tok}
    {tk_MOST_STROKES : Tok}
    {tk_FEWEST_LEVELS : Tok}
    {tk_MOST_LEVELS : Tok}
    {tk_GREATEST_DEPTH : Tok}
    {tk_GREATEST_SPEED : Tok}
    {tk_MOST_DEEDS : Tok}
    {ta_CAGE_SPOTS : Addr} {tk_CAGE_SPOTS_0 tk_CAGE_SPOTS_1 : Tok} {to_CAGE_SPOTS : Option Addr} {tn_CAGE_SPOTS : Nat} {ts_CAGE_SPOTS : Array (Option Value)}
    {c0_0 c2_0 : Value} {dd0_0 d2_0 : Option Addr} {sl0_0 sl2_0 : Array (Option Value)} {cd0_0 : ClassData} {N0_0 : Addr} {es0_0 : Array DictEntry} {ep0_0 : Nat}
    {nm_UnknownLevel q_UnknownLevel : Str} {N_UnknownLevel : Addr} {bs_UnknownLevel : List Value} {hd_UnknownLevel : Bool} {sn_UnknownLevel : List Str} {su_UnknownLevel : List Value} {ab_UnknownLevel : Bool} {co_UnknownLevel : Option Bool} {dd_UnknownLevel : Option Addr} {k0_UnknownLevel k1_UnknownLevel k2_UnknownLevel k3_UnknownLevel k5_UnknownLevel : Option Value} {c1_UnknownLevel : Value} {d1_UnknownLevel : Option Addr} {es_UnknownLevel : Array DictEntry} {ep_UnknownLevel : Nat} {sl_UnknownLevel : Array (Option Value)}
    {nm_UnknownLoad q_UnknownLoad : Str} {N_UnknownLoad : Addr} {bs_UnknownLoad : List Value} {hd_UnknownLoad : Bool} {sn_UnknownLoad : List Str} {su_UnknownLoad : List Value} {ab_UnknownLoad : Bool} {co_UnknownLoad : Option Bool} {dd_UnknownLoad : Option Addr} {k0_UnknownLoad k1_UnknownLoad k2_UnknownLoad k3_UnknownLoad k5_UnknownLoad : Option Value} {c1_UnknownLoad : Value} {d1_UnknownLoad : Option Addr} {es_UnknownLoad : Array DictEntry} {ep_UnknownLoad : Nat} {sl_UnknownLoad : Array (Option Value)}
    {nm_BadLoads q_BadLoads : Str} {N_BadLoads : Addr} {bs_BadLoads : List Value} {hd_BadLoads : Bool} {sn_BadLoads : List Str} {su_BadLoads : List Value} {ab_BadLoads : Bool} {co_BadLoads : Option Bool} {dd_BadLoads : Option Addr} {k0_BadLoads k1_BadLoads k2_BadLoads k3_BadLoads k5_BadLoads : Option Value} {c1_BadLoads : Value} {d1_BadLoads : Option Addr} {es_BadLoads : Array DictEntry} {ep_BadLoads : Nat} {sl_BadLoads : Array (Option Value)}
    {nm_BadCodes q_BadCodes : Str} {N_BadCodes : Addr} {bs_BadCodes : List Value} {hd_BadCodes : Bool} {sn_BadCodes : List Str} {su_BadCodes : List Value} {ab_BadCodes : Bool} {co_BadCodes : Option Bool} {dd_BadCodes : Option Addr} {k0_BadCodes k1_BadCodes k2_BadCodes k3_BadCodes k5_BadCodes : Option Value} {c1_BadCodes : Value} {d1_BadCodes : Option Addr} {es_BadCodes : Array DictEntry} {ep_BadCodes : Nat} {sl_BadCodes : Array (Option Value)}
    {nm_BadDepths q_BadDepths : Str} {N_BadDepths : Addr} {bs_BadDepths : List Value} {hd_BadDepths : Bool} {sn_BadDepths : List Str} {su_BadDepths : List Value} {ab_BadDepths : Bool} {co_BadDepths : Option Bool} {dd_BadDepths : Option Addr} {k0_BadDepths k1_BadDepths k2_BadDepths k3_BadDepths k5_BadDepths : Option Value} {c1_BadDepths : Value} {d1_BadDepths : Option Addr} {es_BadDepths : Array DictEntry} {ep_BadDepths : Nat} {sl_BadDepths : Array (Option Value)}
    {nm_BadSpeeds q_BadSpeeds : Str} {N_BadSpeeds : Addr} {bs_BadSpeeds : List Value} {hd_BadSpeeds : Bool} {sn_BadSpeeds : List Str} {su_BadSpeeds : List Value} {ab_BadSpeeds : Bool} {co_BadSpeeds : Option Bool} {dd_BadSpeeds : Option Addr} {k0_BadSpeeds k1_BadSpeeds k2_BadSpeeds k3_BadSpeeds k5_BadSpeeds : Option Value} {c1_BadSpeeds : Value} {d1_BadSpeeds : Option Addr} {es_BadSpeeds : Array DictEntry} {ep_BadSpeeds : Nat} {sl_BadSpeeds : Array (Option Value)}
    {nm_BookFull q_BookFull : Str} {N_BookFull : Addr} {bs_BookFull : List Value} {hd_BookFull : Bool} {sn_BookFull : List Str} {su_BookFull : List Value} {ab_BookFull : Bool} {co_BookFull : Option Bool} {dd_BookFull : Option Addr} {k0_BookFull k1_BookFull k2_BookFull k3_BookFull k5_BookFull : Option Value} {c1_BookFull : Value} {d1_BookFull : Option Addr} {es_BookFull : Array DictEntry} {ep_BookFull : Nat} {sl_BookFull : Array (Option Value)}
    {nm_NoChange q_NoChange : Str} {N_NoChange : Addr} {bs_NoChange : List Value} {hd_NoChange : Bool} {sn_NoChange : List Str} {su_NoChange : List Value} {ab_NoChange : Bool} {co_NoChange : Option Bool} {dd_NoChange : Option Addr} {k0_NoChange k1_NoChange k2_NoChange k3_NoChange k5_NoChange : Option Value} {c1_NoChange : Value} {d1_NoChange : Option Addr} {es_NoChange : Array DictEntry} {ep_NoChange : Nat} {sl_NoChange : Array (Option Value)}
    (a_is_known : PySem.W.nsIn K mainGlobals "is_known" = some (some (.ref f_is_known))) (l_is_known : K.lookup f_is_known = some ⟨oc_is_known, od_is_known, .func (PySem.W.fnOf "is_known" "is_known" (defArgs s_is_known) (defBody s_is_known) (defScope s_is_known) .none kV_is_known dc_is_known pm_is_known an_is_known cd_is_known ct_is_known), sl_is_known⟩) (c_is_known : PySem.W.codeIn K cd_is_known "is_known" = true) (k_is_known : PySem.W.keepIn K (.ref f_is_known) = true)
    (a_check_level : PySem.W.nsIn K mainGlobals "check_level" = some (some (.ref f_check_level))) (l_check_level : K.lookup f_check_level = some ⟨oc_check_level, od_check_level, .func (PySem.W.fnOf "check_level" "check_level" (defArgs s_check_level) (defBody s_check_level) (defScope s_check_level) .none kV_check_level dc_check_level pm_check_level an_check_level cd_check_level ct_check_level), sl_check_level⟩) (c_check_level : PySem.W.codeIn K cd_check_level "check_level" = true) (k_check_level : PySem.W.keepIn K (.ref f_check_level) = true)
    (a_check_load : PySem.W.nsIn K mainGlobals "check_load" = some (some (.ref f_check_load))) (l_check_load : K.lookup f_check_load = some ⟨oc_check_load, od_check_load, .func (PySem.W.fnOf "check_load" "check_load" (defArgs s_check_load) (defBody s_check_load) (defScope s_check_load) .none kV_check_load dc_check_load pm_check_load an_check_load cd_check_load ct_check_load), sl_check_load⟩) (c_check_load : PySem.W.codeIn K cd_check_load "check_load" = true) (k_check_load : PySem.W.keepIn K (.ref f_check_load) = true)
    (a_check_loads : PySem.W.nsIn K mainGlobals "check_loads" = some (some (.ref f_check_loads))) (l_check_loads : K.lookup f_check_loads = some ⟨oc_check_loads, od_check_loads, .func (PySem.W.fnOf "check_loads" "check_loads" (defArgs s_check_loads) (defBody s_check_loads) (defScope s_check_loads) .none kV_check_loads dc_check_loads pm_check_loads an_check_loads cd_check_loads ct_check_loads), sl_check_loads⟩) (c_check_loads : PySem.W.codeIn K cd_check_loads "check_loads" = true) (k_check_loads : PySem.W.keepIn K (.ref f_check_loads) = true)
    (a_Yard_init : PySem.W.findIn K (.ref C_Yard) "__init__" = some (some (.ref f_Yard_init))) (fn_Yard_init : PySem.W.isFn K (.ref f_Yard_init) = true) (mk_Yard_init : PySem.W.makesIn K C_Yard = true) (kc_Yard_init : PySem.W.keepIn K (.ref C_Yard) = true)
    (l_Yard_init : K.lookup f_Yard_init = some ⟨oc_Yard_init, od_Yard_init, .func (PySem.W.fnOf "__init__" "Yard.__init__" (defArgs s_Yard_init) (defBody s_Yard_init) (defScope s_Yard_init) .none kV_Yard_init dc_Yard_init pm_Yard_init an_Yard_init cd_Yard_init ct_Yard_init), sl_Yard_init⟩) (c_Yard_init : PySem.W.codeIn K cd_Yard_init "Yard.__init__" = true) (k_Yard_init : PySem.W.keepIn K (.ref f_Yard_init) = true)
    (a_Yard_men_aboard : PySem.W.findIn K (.ref C_Yard) "men_aboard" = some (some (.ref f_Yard_men_aboard))) (fn_Yard_men_aboard : PySem.W.isFn K (.ref f_Yard_men_aboard) = true)
    (l_Yard_men_aboard : K.lookup f_Yard_men_aboard = some ⟨oc_Yard_men_aboard, od_Yard_men_aboard, .func (PySem.W.fnOf "men_aboard" "Yard.men_aboard" (defArgs s_Yard_men_aboard) (defBody s_Yard_men_aboard) (defScope s_Yard_men_aboard) .none kV_Yard_men_aboard dc_Yard_men_aboard pm_Yard_men_aboard an_Yard_men_aboard cd_Yard_men_aboard ct_Yard_men_aboard), sl_Yard_men_aboard⟩) (c_Yard_men_aboard : PySem.W.codeIn K cd_Yard_men_aboard "Yard.men_aboard" = true) (k_Yard_men_aboard : PySem.W.keepIn K (.ref f_Yard_men_aboard) = true)
    (a_Yard_twin : PySem.W.findIn K (.ref C_Yard) "twin" = some (some (.ref f_Yard_twin))) (fn_Yard_twin : PySem.W.isFn K (.ref f_Yard_twin) = true)
    (l_Yard_twin : K.lookup f_Yard_twin = some ⟨oc_Yard_twin, od_Yard_twin, .func (PySem.W.fnOf "twin" "Yard.twin" (defArgs s_Yard_twin) (defBody s_Yard_twin) (defScope s_Yard_twin) .none kV_Yard_twin dc_Yard_twin pm_Yard_twin an_Yard_twin cd_Yard_twin ct_Yard_twin), sl_Yard_twin⟩) (c_Yard_twin : PySem.W.codeIn K cd_Yard_twin "Yard.twin" = true) (k_Yard_twin : PySem.W.keepIn K (.ref f_Yard_twin) = true)
    (a_are_strokes : PySem.W.nsIn K mainGlobals "are_strokes" = some (some (.ref f_are_strokes))) (l_are_strokes : K.lookup f_are_strokes = some ⟨oc_are_strokes, od_are_strokes, .func (PySem.W.fnOf "are_strokes" "are_strokes" (defArgs s_are_strokes) (defBody s_are_strokes) (defScope s_are_strokes) .none kV_are_strokes dc_are_strokes pm_are_strokes an_are_strokes cd_are_strokes ct_are_strokes), sl_are_strokes⟩) (c_are_strokes : PySem.W.codeIn K cd_are_strokes "are_strokes" = true) (k_are_strokes : PySem.W.keepIn K (.ref f_are_strokes) = true)
    (a_check_codes : PySem.W.nsIn K mainGlobals "check_codes" = some (some (.ref f_check_codes))) (l_check_codes : K.lookup f_check_codes = some ⟨oc_check_codes, od_check_codes, .func (PySem.W.fnOf "check_codes" "check_codes" (defArgs s_check_codes) (defBody s_check_codes) (defScope s_check_codes) .none kV_check_codes dc_check_codes pm_check_codes an_check_codes cd_check_codes ct_check_codes), sl_check_codes⟩) (c_check_codes : PySem.W.codeIn K cd_check_codes "check_codes" = true) (k_check_codes : PySem.W.keepIn K (.ref f_check_codes) = true)
    (a_Bells_init : PySem.W.findIn K (.ref C_Bells) "__init__" = some (some (.ref f_Bells_init))) (fn_Bells_init : PySem.W.isFn K (.ref f_Bells_init) = true) (mk_Bells_init : PySem.W.makesIn K C_Bells = true) (kc_Bells_init : PySem.W.keepIn K (.ref C_Bells) = true)
    (l_Bells_init : K.lookup f_Bells_init = some ⟨oc_Bells_init, od_Bells_init, .func (PySem.W.fnOf "__init__" "Bells.__init__" (defArgs s_Bells_init) (defBody s_Bells_init) (defScope s_Bells_init) .none kV_Bells_init dc_Bells_init pm_Bells_init an_Bells_init cd_Bells_init ct_Bells_init), sl_Bells_init⟩) (c_Bells_init : PySem.W.codeIn K cd_Bells_init "Bells.__init__" = true) (k_Bells_init : PySem.W.keepIn K (.ref f_Bells_init) = true)
    (a_Bells_twin : PySem.W.findIn K (.ref C_Bells) "twin" = some (some (.ref f_Bells_twin))) (fn_Bells_twin : PySem.W.isFn K (.ref f_Bells_twin) = true)
    (l_Bells_twin : K.lookup f_Bells_twin = some ⟨oc_Bells_twin, od_Bells_twin, .func (PySem.W.fnOf "twin" "Bells.twin" (defArgs s_Bells_twin) (defBody s_Bells_twin) (defScope s_Bells_twin) .none kV_Bells_twin dc_Bells_twin pm_Bells_twin an_Bells_twin cd_Bells_twin ct_Bells_twin), sl_Bells_twin⟩) (c_Bells_twin : PySem.W.codeIn K cd_Bells_twin "Bells.twin" = true) (k_Bells_twin : PySem.W.keepIn K (.ref f_Bells_twin) = true)
    (a_check_depths : PySem.W.nsIn K mainGlobals "check_depths" = some (some (.ref f_check_depths))) (l_check_depths : K.lookup f_check_depths = some ⟨oc_check_depths, od_check_depths, .func (PySem.W.fnOf "check_depths" "check_depths" (defArgs s_check_depths) (defBody s_check_depths) (defScope s_check_depths) .none kV_check_depths dc_check_depths pm_check_depths an_check_depths cd_check_depths ct_check_depths), sl_check_depths⟩) (c_check_depths : PySem.W.codeIn K cd_check_depths "check_depths" = true) (k_check_depths : PySem.W.keepIn K (.ref f_check_depths) = true)
    (a_drum_whole : PySem.W.nsIn K mainGlobals "drum_whole" = some (some (.ref f_drum_whole))) (l_drum_whole : K.lookup f_drum_whole = some ⟨oc_drum_whole, od_drum_whole, .func (PySem.W.fnOf "drum_whole" "drum_whole" (defArgs s_drum_whole) (defBody s_drum_whole) (defScope s_drum_whole) .none kV_drum_whole dc_drum_whole pm_drum_whole an_drum_whole cd_drum_whole ct_drum_whole), sl_drum_whole⟩) (c_drum_whole : PySem.W.codeIn K cd_drum_whole "drum_whole" = true) (k_drum_whole : PySem.W.keepIn K (.ref f_drum_whole) = true)
    (a_other_place : PySem.W.nsIn K mainGlobals "other_place" = some (some (.ref f_other_place))) (l_other_place : K.lookup f_other_place = some ⟨oc_other_place, od_other_place, .func (PySem.W.fnOf "other_place" "other_place" (defArgs s_other_place) (defBody s_other_place) (defScope s_other_place) .none kV_other_place dc_other_place pm_other_place an_other_place cd_other_place ct_other_place), sl_other_place⟩) (c_other_place : PySem.W.codeIn K cd_other_place "other_place" = true) (k_other_place : PySem.W.keepIn K (.ref f_other_place) = true)
    (a_level_at : PySem.W.nsIn K mainGlobals "level_at" = some (some (.ref f_level_at))) (l_level_at : K.lookup f_level_at = some ⟨oc_level_at, od_level_at, .func (PySem.W.fnOf "level_at" "level_at" (defArgs s_level_at) (defBody s_level_at) (defScope s_level_at) .none kV_level_at dc_level_at pm_level_at an_level_at cd_level_at ct_level_at), sl_level_at⟩) (c_level_at : PySem.W.codeIn K cd_level_at "level_at" = true) (k_level_at : PySem.W.keepIn K (.ref f_level_at) = true)
    (a_check_speeds : PySem.W.nsIn K mainGlobals "check_speeds" = some (some (.ref f_check_speeds))) (l_check_speeds : K.lookup f_check_speeds = some ⟨oc_check_speeds, od_check_speeds, .func (PySem.W.fnOf "check_speeds" "check_speeds" (defArgs s_check_speeds) (defBody s_check_speeds) (defScope s_check_speeds) .none kV_check_speeds dc_check_speeds pm_check_speeds an_check_speeds cd_check_speeds ct_check_speeds), sl_check_speeds⟩) (c_check_speeds : PySem.W.codeIn K cd_check_speeds "check_speeds" = true) (k_check_speeds : PySem.W.keepIn K (.ref f_check_speeds) = true)
    (a_Standing_init : PySem.W.findIn K (.ref C_Standing) "__init__" = some (some (.ref f_Standing_init))) (fn_Standing_init : PySem.W.isFn K (.ref f_Standing_init) = true) (mk_Standing_init : PySem.W.makesIn K C_Standing = true) (kc_Standing_init : PySem.W.keepIn K (.ref C_Standing) = true)
    (l_Standing_init : K.lookup f_Standing_init = some ⟨oc_Standing_init, od_Standing_init, .func (PySem.W.fnOf "__init__" "Standing.__init__" (defArgs s_Standing_init) (defBody s_Standing_init) (defScope s_Standing_init) .none kV_Standing_init dc_Standing_init pm_Standing_init an_Standing_init cd_Standing_init ct_Standing_init), sl_Standing_init⟩) (c_Standing_init : PySem.W.codeIn K cd_Standing_init "Standing.__init__" = true) (k_Standing_init : PySem.W.keepIn K (.ref f_Standing_init) = true)
    (a_Standing_twin : PySem.W.findIn K (.ref C_Standing) "twin" = some (some (.ref f_Standing_twin))) (fn_Standing_twin : PySem.W.isFn K (.ref f_Standing_twin) = true)
    (l_Standing_twin : K.lookup f_Standing_twin = some ⟨oc_Standing_twin, od_Standing_twin, .func (PySem.W.fnOf "twin" "Standing.twin" (defArgs s_Standing_twin) (defBody s_Standing_twin) (defScope s_Standing_twin) .none kV_Standing_twin dc_Standing_twin pm_Standing_twin an_Standing_twin cd_Standing_twin ct_Standing_twin), sl_Standing_twin⟩) (c_Standing_twin : PySem.W.codeIn K cd_Standing_twin "Standing.twin" = true) (k_Standing_twin : PySem.W.keepIn K (.ref f_Standing_twin) = true)
    (a_Book_init : PySem.W.findIn K (.ref C_Book) "__init__" = some (some (.ref f_Book_init))) (fn_Book_init : PySem.W.isFn K (.ref f_Book_init) = true) (mk_Book_init : PySem.W.makesIn K C_Book = true) (kc_Book_init : PySem.W.keepIn K (.ref C_Book) = true)
    (l_Book_init : K.lookup f_Book_init = some ⟨oc_Book_init, od_Book_init, .func (PySem.W.fnOf "__init__" "Book.__init__" (defArgs s_Book_init) (defBody s_Book_init) (defScope s_Book_init) .none kV_Book_init dc_Book_init pm_Book_init an_Book_init cd_Book_init ct_Book_init), sl_Book_init⟩) (c_Book_init : PySem.W.codeIn K cd_Book_init "Book.__init__" = true) (k_Book_init : PySem.W.keepIn K (.ref f_Book_init) = true)
    (a_Book_write : PySem.W.findIn K (.ref C_Book) "write" = some (some (.ref f_Book_write))) (fn_Book_write : PySem.W.isFn K (.ref f_Book_write) = true)
    (l_Book_write : K.lookup f_Book_write = some ⟨oc_Book_write, od_Book_write, .func (PySem.W.fnOf "write" "Book.write" (defArgs s_Book_write) (defBody s_Book_write) (defScope s_Book_write) .none kV_Book_write dc_Book_write pm_Book_write an_Book_write cd_Book_write ct_Book_write), sl_Book_write⟩) (c_Book_write : PySem.W.codeIn K cd_Book_write "Book.write" = true) (k_Book_write : PySem.W.keepIn K (.ref f_Book_write) = true)
    (a_Book_now : PySem.W.findIn K (.ref C_Book) "now" = some (some (.ref f_Book_now))) (fn_Book_now : PySem.W.isFn K (.ref f_Book_now) = true)
    (l_Book_now : K.lookup f_Book_now = some ⟨oc_Book_now, od_Book_now, .func (PySem.W.fnOf "now" "Book.now" (defArgs s_Book_now) (defBody s_Book_now) (defScope s_Book_now) .none kV_Book_now dc_Book_now pm_Book_now an_Book_now cd_Book_now ct_Book_now), sl_Book_now⟩) (c_Book_now : PySem.W.codeIn K cd_Book_now "Book.now" = true) (k_Book_now : PySem.W.keepIn K (.ref f_Book_now) = true)
    (a_Book_latest : PySem.W.findIn K (.ref C_Book) "latest" = some (some (.ref f_Book_latest))) (fn_Book_latest : PySem.W.isFn K (.ref f_Book_latest) = true)
    (l_Book_latest : K.lookup f_Book_latest = some ⟨oc_Book_latest, od_Book_latest, .func (PySem.W.fnOf "latest" "Book.latest" (defArgs s_Book_latest) (defBody s_Book_latest) (defScope s_Book_latest) .none kV_Book_latest dc_Book_latest pm_Book_latest an_Book_latest cd_Book_latest ct_Book_latest), sl_Book_latest⟩) (c_Book_latest : PySem.W.codeIn K cd_Book_latest "Book.latest" = true) (k_Book_latest : PySem.W.keepIn K (.ref f_Book_latest) = true)
    (a_Book_told : PySem.W.findIn K (.ref C_Book) "told" = some (some (.ref f_Book_told))) (fn_Book_told : PySem.W.isFn K (.ref f_Book_told) = true)
    (l_Book_told : K.lookup f_Book_told = some ⟨oc_Book_told, od_Book_told, .func (PySem.W.fnOf "told" "Book.told" (defArgs s_Book_told) (defBody s_Book_told) (defScope s_Book_told) .none kV_Book_told dc_Book_told pm_Book_told an_Book_told cd_Book_told ct_Book_told), sl_Book_told⟩) (c_Book_told : PySem.W.codeIn K cd_Book_told "Book.told" = true) (k_Book_told : PySem.W.keepIn K (.ref f_Book_told) = true)
    (a_Works_init : PySem.W.findIn K (.ref C_Works) "__init__" = some (some (.ref f_Works_init))) (fn_Works_init : PySem.W.isFn K (.ref f_Works_init) = true) (mk_Works_init : PySem.W.makesIn K C_Works = true) (kc_Works_init : PySem.W.keepIn K (.ref C_Works) = true)
    (l_Works_init : K.lookup f_Works_init = some ⟨oc_Works_init, od_Works_init, .func (PySem.W.fnOf "__init__" "Works.__init__" (defArgs s_Works_init) (defBody s_Works_init) (defScope s_Works_init) .none kV_Works_init dc_Works_init pm_Works_init an_Works_init cd_Works_init ct_Works_init), sl_Works_init⟩) (c_Works_init : PySem.W.codeIn K cd_Works_init "Works.__init__" = true) (k_Works_init : PySem.W.keepIn K (.ref f_Works_init) = true)
    (a_Works_open_gate : PySem.W.findIn K (.ref C_Works) "open_gate" = some (some (.ref f_Works_open_gate))) (fn_Works_open_gate : PySem.W.isFn K (.ref f_Works_open_gate) = true)
    (l_Works_open_gate : K.lookup f_Works_open_gate = some ⟨oc_Works_open_gate, od_Works_open_gate, .func (PySem.W.fnOf "open_gate" "Works.open_gate" (defArgs s_Works_open_gate) (defBody s_Works_open_gate) (defScope s_Works_open_gate) .none kV_Works_open_gate dc_Works_open_gate pm_Works_open_gate an_Works_open_gate cd_Works_open_gate ct_Works_open_gate), sl_Works_open_gate⟩) (c_Works_open_gate : PySem.W.codeIn K cd_Works_open_gate "Works.open_gate" = true) (k_Works_open_gate : PySem.W.keepIn K (.ref f_Works_open_gate) = true)
    (a_Works_shut_gate : PySem.W.findIn K (.ref C_Works) "shut_gate" = some (some (.ref f_Works_shut_gate))) (fn_Works_shut_gate : PySem.W.isFn K (.ref f_Works_shut_gate) = true)
    (l_Works_shut_gate : K.lookup f_Works_shut_gate = some ⟨oc_Works_shut_gate, od_Works_shut_gate, .func (PySem.W.fnOf "shut_gate" "Works.shut_gate" (defArgs s_Works_shut_gate) (defBody s_Works_shut_gate) (defScope s_Works_shut_gate) .none kV_Works_shut_gate dc_Works_shut_gate pm_Works_shut_gate an_Works_shut_gate cd_Works_shut_gate ct_Works_shut_gate), sl_Works_shut_gate⟩) (c_Works_shut_gate : PySem.W.codeIn K cd_Works_shut_gate "Works.shut_gate" = true) (k_Works_shut_gate : PySem.W.keepIn K (.ref f_Works_shut_gate) = true)
    (a_Works_turn_gate : PySem.W.findIn K (.ref C_Works) "turn_gate" = some (some (.ref f_Works_turn_gate))) (fn_Works_turn_gate : PySem.W.isFn K (.ref f_Works_turn_gate) = true)
    (l_Works_turn_gate : K.lookup f_Works_turn_gate = some ⟨oc_Works_turn_gate, od_Works_turn_gate, .func (PySem.W.fnOf "turn_gate" "Works.turn_gate" (defArgs s_Works_turn_gate) (defBody s_Works_turn_gate) (defScope s_Works_turn_gate) .none kV_Works_turn_gate dc_Works_turn_gate pm_Works_turn_gate an_Works_turn_gate cd_Works_turn_gate ct_Works_turn_gate), sl_Works_turn_gate⟩) (c_Works_turn_gate : PySem.W.codeIn K cd_Works_turn_gate "Works.turn_gate" = true) (k_Works_turn_gate : PySem.W.keepIn K (.ref f_Works_turn_gate) = true)
    (a_Works_write : PySem.W.findIn K (.ref C_Works) "write" = some (some (.ref f_Works_write))) (fn_Works_write : PySem.W.isFn K (.ref f_Works_write) = true)
    (l_Works_write : K.lookup f_Works_write = some ⟨oc_Works_write, od_Works_write, .func (PySem.W.fnOf "write" "Works.write" (defArgs s_Works_write) (defBody s_Works_write) (defScope s_Works_write) .none kV_Works_write dc_Works_write pm_Works_write an_Works_write cd_Works_write ct_Works_write), sl_Works_write⟩) (c_Works_write : PySem.W.codeIn K cd_Works_write "Works.write" = true) (k_Works_write : PySem.W.keepIn K (.ref f_Works_write) = true)
    (a_Works_speed_with : PySem.W.findIn K (.ref C_Works) "speed_with" = some (some (.ref f_Works_speed_with))) (fn_Works_speed_with : PySem.W.isFn K (.ref f_Works_speed_with) = true)
    (l_Works_speed_with : K.lookup f_Works_speed_with = some ⟨oc_Works_speed_with, od_Works_speed_with, .func (PySem.W.fnOf "speed_with" "Works.speed_with" (defArgs s_Works_speed_with) (defBody s_Works_speed_with) (defScope s_Works_speed_with) .none kV_Works_speed_with dc_Works_speed_with pm_Works_speed_with an_Works_speed_with cd_Works_speed_with ct_Works_speed_with), sl_Works_speed_with⟩) (c_Works_speed_with : PySem.W.codeIn K cd_Works_speed_with "Works.speed_with" = true) (k_Works_speed_with : PySem.W.keepIn K (.ref f_Works_speed_with) = true)
    (a_Works_now : PySem.W.findIn K (.ref C_Works) "now" = some (some (.ref f_Works_now))) (fn_Works_now : PySem.W.isFn K (.ref f_Works_now) = true)
    (l_Works_now : K.lookup f_Works_now = some ⟨oc_Works_now, od_Works_now, .func (PySem.W.fnOf "now" "Works.now" (defArgs s_Works_now) (defBody s_Works_now) (defScope s_Works_now) .none kV_Works_now dc_Works_now pm_Works_now an_Works_now cd_Works_now ct_Works_now), sl_Works_now⟩) (c_Works_now : PySem.W.codeIn K cd_Works_now "Works.now" = true) (k_Works_now : PySem.W.keepIn K (.ref f_Works_now) = true)
    (a_Works_book : PySem.W.findIn K (.ref C_Works) "book" = some (some (.ref f_Works_book))) (fn_Works_book : PySem.W.isFn K (.ref f_Works_book) = true)
    (l_Works_book : K.lookup f_Works_book = some ⟨oc_Works_book, od_Works_book, .func (PySem.W.fnOf "book" "Works.book" (defArgs s_Works_book) (defBody s_Works_book) (defScope s_Works_book) .none kV_Works_book dc_Works_book pm_Works_book an_Works_book cd_Works_book ct_Works_book), sl_Works_book⟩) (c_Works_book : PySem.W.codeIn K cd_Works_book "Works.book" = true) (k_Works_book : PySem.W.keepIn K (.ref f_Works_book) = true)
    (a_Works_gates : PySem.W.findIn K (.ref C_Works) "gates" = some (some (.ref f_Works_gates))) (fn_Works_gates : PySem.W.isFn K (.ref f_Works_gates) = true)
    (l_Works_gates : K.lookup f_Works_gates = some ⟨oc_Works_gates, od_Works_gates, .func (PySem.W.fnOf "gates" "Works.gates" (defArgs s_Works_gates) (defBody s_Works_gates) (defScope s_Works_gates) .none kV_Works_gates dc_Works_gates pm_Works_gates an_Works_gates cd_Works_gates ct_Works_gates), sl_Works_gates⟩) (c_Works_gates : PySem.W.codeIn K cd_Works_gates "Works.gates" = true) (k_Works_gates : PySem.W.keepIn K (.ref f_Works_gates) = true)
    (a_l_at : PySem.W.nsIn K mainGlobals "_law_at" = some (some (.ref f_l_at))) (l_l_at : K.lookup f_l_at = some ⟨oc_l_at, od_l_at, .func (PySem.W.fnOf "_law_at" "_law_at" (defArgs s_l_at) (defBody s_l_at) (defScope s_l_at) .none kV_l_at dc_l_at pm_l_at an_l_at cd_l_at ct_l_at), sl_l_at⟩) (c_l_at : PySem.W.codeIn K cd_l_at "_law_at" = true) (k_l_at : PySem.W.keepIn K (.ref f_l_at) = true)
    (a_l_draw : PySem.W.nsIn K mainGlobals "_law_draw" = some (some (.ref f_l_draw))) (l_l_draw : K.lookup f_l_draw = some ⟨oc_l_draw, od_l_draw, .func (PySem.W.fnOf "_law_draw" "_law_draw" (defArgs s_l_draw) (defBody s_l_draw) (defScope s_l_draw) .none kV_l_draw dc_l_draw pm_l_draw an_l_draw cd_l_draw ct_l_draw), sl_l_draw⟩) (c_l_draw : PySem.W.codeIn K cd_l_draw "_law_draw" = true) (k_l_draw : PySem.W.keepIn K (.ref f_l_draw) = true)
    (a_l_mixed : PySem.W.nsIn K mainGlobals "_law_mixed" = some (some (.ref f_l_mixed))) (l_l_mixed : K.lookup f_l_mixed = some ⟨oc_l_mixed, od_l_mixed, .func (PySem.W.fnOf "_law_mixed" "_law_mixed" (defArgs s_l_mixed) (defBody s_l_mixed) (defScope s_l_mixed) .none kV_l_mixed dc_l_mixed pm_l_mixed an_l_mixed cd_l_mixed ct_l_mixed), sl_l_mixed⟩) (c_l_mixed : PySem.W.codeIn K cd_l_mixed "_law_mixed" = true) (k_l_mixed : PySem.W.keepIn K (.ref f_l_mixed) = true)
    (a_l_same : PySem.W.nsIn K mainGlobals "_law_same" = some (some (.ref f_l_same))) (l_l_same : K.lookup f_l_same = some ⟨oc_l_same, od_l_same, .func (PySem.W.fnOf "_law_same" "_law_same" (defArgs s_l_same) (defBody s_l_same) (defScope s_l_same) .none kV_l_same dc_l_same pm_l_same an_l_same cd_l_same ct_l_same), sl_l_same⟩) (c_l_same : PySem.W.codeIn K cd_l_same "_law_same" = true) (k_l_same : PySem.W.keepIn K (.ref f_l_same) = true)
    (a_l_depths : PySem.W.nsIn K mainGlobals "_law_depths" = some (some (.ref f_l_depths))) (l_l_depths : K.lookup f_l_depths = some ⟨oc_l_depths, od_l_depths, .func (PySem.W.fnOf "_law_depths" "_law_depths" (defArgs s_l_depths) (defBody s_l_depths) (defScope s_l_depths) .none kV_l_depths dc_l_depths pm_l_depths an_l_depths cd_l_depths ct_l_depths), sl_l_depths⟩) (c_l_depths : PySem.W.codeIn K cd_l_depths "_law_depths" = true) (k_l_depths : PySem.W.keepIn K (.ref f_l_depths) = true)
    (a_l_codes : PySem.W.nsIn K mainGlobals "_law_codes" = some (some (.ref f_l_codes))) (l_l_codes : K.lookup f_l_codes = some ⟨oc_l_codes, od_l_codes, .func (PySem.W.fnOf "_law_codes" "_law_codes" (defArgs s_l_codes) (defBody s_l_codes) (defScope s_l_codes) .none kV_l_codes dc_l_codes pm_l_codes an_l_codes cd_l_codes ct_l_codes), sl_l_codes⟩) (c_l_codes : PySem.W.codeIn K cd_l_codes "_law_codes" = true) (k_l_codes : PySem.W.keepIn K (.ref f_l_codes) = true)
    (a_l_shaft : PySem.W.nsIn K mainGlobals "_law_shaft" = some (some (.ref f_l_shaft))) (l_l_shaft : K.lookup f_l_shaft = some ⟨oc_l_shaft, od_l_shaft, .func (PySem.W.fnOf "_law_shaft" "_law_shaft" (defArgs s_l_shaft) (defBody s_l_shaft) (defScope s_l_shaft) .none kV_l_shaft dc_l_shaft pm_l_shaft an_l_shaft cd_l_shaft ct_l_shaft), sl_l_shaft⟩) (c_l_shaft : PySem.W.codeIn K cd_l_shaft "_law_shaft" = true) (k_l_shaft : PySem.W.keepIn K (.ref f_l_shaft) = true)
    (a_l_turned : PySem.W.nsIn K mainGlobals "_law_turned" = some (some (.ref f_l_turned))) (l_l_turned : K.lookup f_l_turned = some ⟨oc_l_turned, od_l_turned, .func (PySem.W.fnOf "_law_turned" "_law_turned" (defArgs s_l_turned) (defBody s_l_turned) (defScope s_l_turned) .none kV_l_turned dc_l_turned pm_l_turned an_l_turned cd_l_turned ct_l_turned), sl_l_turned⟩) (c_l_turned : PySem.W.codeIn K cd_l_turned "_law_turned" = true) (k_l_turned : PySem.W.keepIn K (.ref f_l_turned) = true)
    (a_law : PySem.W.nsIn K mainGlobals "law" = some (some (.ref f_law))) (l_law : K.lookup f_law = some ⟨oc_law, od_law, .func (PySem.W.fnOf "law" "law" (defArgs s_law) (defBody s_law) (defScope s_law) .none kV_law dc_law pm_law an_law cd_law ct_law), sl_law⟩) (c_law : PySem.W.codeIn K cd_law "law" = true) (k_law : PySem.W.keepIn K (.ref f_law) = true)
    (z_len : PySem.W.nsIn K mainGlobals "len" = some none)
    (z_zip : PySem.W.nsIn K mainGlobals "zip" = some none)
    (z_list : PySem.W.nsIn K mainGlobals "list" = some none)
    (z_range : PySem.W.nsIn K mainGlobals "range" = some none)
    (z_isinstance : PySem.W.nsIn K mainGlobals "isinstance" = some none)
    (z_tuple : PySem.W.nsIn K mainGlobals "tuple" = some none)
    (z_int : PySem.W.nsIn K mainGlobals "int" = some none)
    (z_str : PySem.W.nsIn K mainGlobals "str" = some none)
    (z_bool : PySem.W.nsIn K mainGlobals "bool" = some none)
    (z_min : PySem.W.nsIn K mainGlobals "min" = some none)
    (n_MOST_LOADS : PySem.W.nsIn K mainGlobals "MOST_LOADS" = some (some (.int 30 tk_MOST_LOADS)))
    (n_FEWEST_STROKES : PySem.W.nsIn K mainGlobals "FEWEST_STROKES" = some (some (.int 1 tk_FEWEST_STROKES)))
    (n_MOST_STROKES : PySem.W.nsIn K mainGlobals "MOST_STROKES" = some (some (.int 9 tk_MOST_STROKES)))
    (n_FEWEST_LEVELS : PySem.W.nsIn K mainGlobals "FEWEST_LEVELS" = some (some (.int 2 tk_FEWEST_LEVELS)))
    (n_MOST_LEVELS : PySem.W.nsIn K mainGlobals "MOST_LEVELS" = some (some (.int 6 tk_MOST_LEVELS)))
    (n_GREATEST_DEPTH : PySem.W.nsIn K mainGlobals "GREATEST_DEPTH" = some (some (.int 500 tk_GREATEST_DEPTH)))
    (n_GREATEST_SPEED : PySem.W.nsIn K mainGlobals "GREATEST_SPEED" = some (some (.int 500 tk_GREATEST_SPEED)))
    (n_MOST_DEEDS : PySem.W.nsIn K mainGlobals "MOST_DEEDS" = some (some (.int 300 tk_MOST_DEEDS)))
    (n_CAGE_SPOTS : PySem.W.nsIn K mainGlobals "CAGE_SPOTS" = some (some (.ref ta_CAGE_SPOTS)))
    (lt_CAGE_SPOTS : K.lookup ta_CAGE_SPOTS = some ⟨.type "tuple", to_CAGE_SPOTS, .seq #[.int 10 tk_CAGE_SPOTS_0, .int 11 tk_CAGE_SPOTS_1] tn_CAGE_SPOTS, ts_CAGE_SPOTS⟩)
    (m_UnknownLevel : PySem.W.nsIn K mainGlobals "UnknownLevel" = some (some (.ref C_UnknownLevel)))
    (m_UnknownLoad : PySem.W.nsIn K mainGlobals "UnknownLoad" = some (some (.ref C_UnknownLoad)))
    (m_BadLoads : PySem.W.nsIn K mainGlobals "BadLoads" = some (some (.ref C_BadLoads)))
    (m_BadCodes : PySem.W.nsIn K mainGlobals "BadCodes" = some (some (.ref C_BadCodes)))
    (m_BadDepths : PySem.W.nsIn K mainGlobals "BadDepths" = some (some (.ref C_BadDepths)))
    (m_BadSpeeds : PySem.W.nsIn K mainGlobals "BadSpeeds" = some (some (.ref C_BadSpeeds)))
    (m_BookFull : PySem.W.nsIn K mainGlobals "BookFull" = some (some (.ref C_BookFull)))
    (m_NoChange : PySem.W.nsIn K mainGlobals "NoChange" = some (some (.ref C_NoChange)))
    (m_CageError : PySem.W.nsIn K mainGlobals "CageError" = some (some (.ref C_CageError)))
    (m_Yard : PySem.W.nsIn K mainGlobals "Yard" = some (some (.ref C_Yard)))
    (m_Bells : PySem.W.nsIn K mainGlobals "Bells" = some (some (.ref C_Bells)))
    (m_Standing : PySem.W.nsIn K mainGlobals "Standing" = some (some (.ref C_Standing)))
    (m_Book : PySem.W.nsIn K mainGlobals "Book" = some (some (.ref C_Book)))
    (m_Works : PySem.W.nsIn K mainGlobals "Works" = some (some (.ref C_Works)))
    (pg_Yard : PySem.W.plainGet K C_Yard Str.empty = true)
    (hd_Yard : PySem.W.hasDictIn K C_Yard = true)
    (po_Yard : PySem.W.plainOver K C_Yard = true)
    (sa_Yard : PySem.W.findIn K (.ref C_Yard) "__setattr__" = some (some (.builtin "object.__setattr__")))
    (na_Yard_kinds : PySem.W.findIn K (.ref C_Yard) "kinds" = some none)
    (na_Yard_where : PySem.W.findIn K (.ref C_Yard) "where" = some none)
    (na_Yard_many : PySem.W.findIn K (.ref C_Yard) "many" = some none)
    (pg_Bells : PySem.W.plainGet K C_Bells Str.empty = true)
    (hd_Bells : PySem.W.hasDictIn K C_Bells = true)
    (po_Bells : PySem.W.plainOver K C_Bells = true)
    (sa_Bells : PySem.W.findIn K (.ref C_Bells) "__setattr__" = some (some (.builtin "object.__setattr__")))
    (na_Bells_codes : PySem.W.findIn K (.ref C_Bells) "codes" = some none)
    (na_Bells_failed : PySem.W.findIn K (.ref C_Bells) "failed" = some none)
    (na_Bells_state : PySem.W.findIn K (.ref C_Bells) "state" = some none)
    (pg_Standing : PySem.W.plainGet K C_Standing Str.empty = true)
    (hd_Standing : PySem.W.hasDictIn K C_Standing = true)
    (po_Standing : PySem.W.plainOver K C_Standing = true)
    (sa_Standing : PySem.W.findIn K (.ref C_Standing) "__setattr__" = some (some (.builtin "object.__setattr__")))
    (na_Standing_place : PySem.W.findIn K (.ref C_Standing) "place" = some none)
    (na_Standing_opened : PySem.W.findIn K (.ref C_Standing) "opened" = some none)
    (na_Standing_bells : PySem.W.findIn K (.ref C_Standing) "bells" = some none)
    (na_Standing_yard : PySem.W.findIn K (.ref C_Standing) "yard" = some none)
    (pg_Book : PySem.W.plainGet K C_Book Str.empty = true)
    (hd_Book : PySem.W.hasDictIn K C_Book = true)
    (po_Book : PySem.W.plainOver K C_Book = true)
    (sa_Book : PySem.W.findIn K (.ref C_Book) "__setattr__" = some (some (.builtin "object.__setattr__")))
    (na_Book_first : PySem.W.findIn K (.ref C_Book) "first" = some none)
    (na_Book_most : PySem.W.findIn K (.ref C_Book) "most" = some none)
    (na_Book_rows : PySem.W.findIn K (.ref C_Book) "rows" = some none)
    (pg_Works : PySem.W.plainGet K C_Works Str.empty = true)
    (hd_Works : PySem.W.hasDictIn K C_Works = true)
    (po_Works : PySem.W.plainOver K C_Works = true)
    (sa_Works : PySem.W.findIn K (.ref C_Works) "__setattr__" = some (some (.builtin "object.__setattr__")))
    (na_Works_depths : PySem.W.findIn K (.ref C_Works) "depths" = some none)
    (na_Works_slow : PySem.W.findIn K (.ref C_Works) "slow" = some none)
    (na_Works_fast : PySem.W.findIn K (.ref C_Works) "fast" = some none)
    (na_Works_goals : PySem.W.findIn K (.ref C_Works) "goals" = some none)
    (na_Works_log : PySem.W.findIn K (.ref C_Works) "log" = some none)
    (l0_0 : K.lookup C_CageError = some ⟨c0_0, dd0_0, .cls cd0_0, sl0_0⟩)
    (e0_0 : cd0_0.ns = N0_0)
    (lN0_0 : K.lookup N0_0 = some ⟨c2_0, d2_0, .dict es0_0 ep0_0, sl2_0⟩)
    (kN0_0 : strKeys es0_0 = true)
    (iN0_0 : (quietNames.all fun n => (nsFind es0_0 n).isNone) = true)
    (lC_UnknownLevel : K.lookup C_UnknownLevel = some (excClassObj nm_UnknownLevel q_UnknownLevel C_UnknownLevel N_UnknownLevel bs_UnknownLevel [.ref C_CageError, .type "ValueError", .type "Exception", .type "BaseException", .type "object"] hd_UnknownLevel sn_UnknownLevel su_UnknownLevel ab_UnknownLevel co_UnknownLevel dd_UnknownLevel k0_UnknownLevel k1_UnknownLevel k2_UnknownLevel k3_UnknownLevel k5_UnknownLevel "ValueError.__new__"))
    (lN_UnknownLevel : K.lookup N_UnknownLevel = some ⟨c1_UnknownLevel, d1_UnknownLevel, .dict es_UnknownLevel ep_UnknownLevel, sl_UnknownLevel⟩)
    (kN_UnknownLevel : strKeys es_UnknownLevel = true)
    (iN_UnknownLevel : (quietNames.all fun n => (nsFind es_UnknownLevel n).isNone) = true)
    (ca_UnknownLevel : PySem.W.findIn K (.ref C_UnknownLevel) "__class__" = some (some (.builtin "object.__class__")))
    (mo_UnknownLevel : PySem.W.mroIn K C_UnknownLevel (.type "object") = some true)
    (ex_UnknownLevel_CageError : PySem.W.exmOne K (.ref C_UnknownLevel) (.ref C_CageError) = some true)
    (kt_UnknownLevel_NoChange : PySem.W.kitOne K (.ref C_UnknownLevel) (.ref C_NoChange) = some false)
    (kt_UnknownLevel_UnknownLevel : PySem.W.kitOne K (.ref C_UnknownLevel) (.ref C_UnknownLevel) = some true)
    (lC_UnknownLoad : K.lookup C_UnknownLoad = some (excClassObj nm_UnknownLoad q_UnknownLoad C_UnknownLoad N_UnknownLoad bs_UnknownLoad [.ref C_CageError, .type "ValueError", .type "Exception", .type "BaseException", .type "object"] hd_UnknownLoad sn_UnknownLoad su_UnknownLoad ab_UnknownLoad co_UnknownLoad dd_UnknownLoad k0_UnknownLoad k1_UnknownLoad k2_UnknownLoad k3_UnknownLoad k5_UnknownLoad "ValueError.__new__"))
    (lN_UnknownLoad : K.lookup N_UnknownLoad = some ⟨c1_UnknownLoad, d1_UnknownLoad, .dict es_UnknownLoad ep_UnknownLoad, sl_UnknownLoad⟩)
    (kN_UnknownLoad : strKeys es_UnknownLoad = true)
    (iN_UnknownLoad : (quietNames.all fun n => (nsFind es_UnknownLoad n).isNone) = true)
    (ca_UnknownLoad : PySem.W.findIn K (.ref C_UnknownLoad) "__class__" = some (some (.builtin "object.__class__")))
    (mo_UnknownLoad : PySem.W.mroIn K C_UnknownLoad (.type "object") = some true)
    (ex_UnknownLoad_CageError : PySem.W.exmOne K (.ref C_UnknownLoad) (.ref C_CageError) = some true)
    (kt_UnknownLoad_NoChange : PySem.W.kitOne K (.ref C_UnknownLoad) (.ref C_NoChange) = some false)
    (kt_UnknownLoad_UnknownLevel : PySem.W.kitOne K (.ref C_UnknownLoad) (.ref C_UnknownLevel) = some false)
    (lC_BadLoads : K.lookup C_BadLoads = some (excClassObj nm_BadLoads q_BadLoads C_BadLoads N_BadLoads bs_BadLoads [.ref C_CageError, .type "ValueError", .type "Exception", .type "BaseException", .type "object"] hd_BadLoads sn_BadLoads su_BadLoads ab_BadLoads co_BadLoads dd_BadLoads k0_BadLoads k1_BadLoads k2_BadLoads k3_BadLoads k5_BadLoads "ValueError.__new__"))
    (lN_BadLoads : K.lookup N_BadLoads = some ⟨c1_BadLoads, d1_BadLoads, .dict es_BadLoads ep_BadLoads, sl_BadLoads⟩)
    (kN_BadLoads : strKeys es_BadLoads = true)
    (iN_BadLoads : (quietNames.all fun n => (nsFind es_BadLoads n).isNone) = true)
    (ca_BadLoads : PySem.W.findIn K (.ref C_BadLoads) "__class__" = some (some (.builtin "object.__class__")))
    (mo_BadLoads : PySem.W.mroIn K C_BadLoads (.type "object") = some true)
    (ex_BadLoads_CageError : PySem.W.exmOne K (.ref C_BadLoads) (.ref C_CageError) = some true)
    (kt_BadLoads_NoChange : PySem.W.kitOne K (.ref C_BadLoads) (.ref C_NoChange) = some false)
    (kt_BadLoads_UnknownLevel : PySem.W.kitOne K (.ref C_BadLoads) (.ref C_UnknownLevel) = some false)
    (lC_BadCodes : K.lookup C_BadCodes = some (excClassObj nm_BadCodes q_BadCodes C_BadCodes N_BadCodes bs_BadCodes [.ref C_CageError, .type "ValueError", .type "Exception", .type "BaseException", .type "object"] hd_BadCodes sn_BadCodes su_BadCodes ab_BadCodes co_BadCodes dd_BadCodes k0_BadCodes k1_BadCodes k2_BadCodes k3_BadCodes k5_BadCodes "ValueError.__new__"))
    (lN_BadCodes : K.lookup N_BadCodes = some ⟨c1_BadCodes, d1_BadCodes, .dict es_BadCodes ep_BadCodes, sl_BadCodes⟩)
    (kN_BadCodes : strKeys es_BadCodes = true)
    (iN_BadCodes : (quietNames.all fun n => (nsFind es_BadCodes n).isNone) = true)
    (ca_BadCodes : PySem.W.findIn K (.ref C_BadCodes) "__class__" = some (some (.builtin "object.__class__")))
    (mo_BadCodes : PySem.W.mroIn K C_BadCodes (.type "object") = some true)
    (ex_BadCodes_CageError : PySem.W.exmOne K (.ref C_BadCodes) (.ref C_CageError) = some true)
    (kt_BadCodes_NoChange : PySem.W.kitOne K (.ref C_BadCodes) (.ref C_NoChange) = some false)
    (kt_BadCodes_UnknownLevel : PySem.W.kitOne K (.ref C_BadCodes) (.ref C_UnknownLevel) = some false)
    (lC_BadDepths : K.lookup C_BadDepths = some (excClassObj nm_BadDepths q_BadDepths C_BadDepths N_BadDepths bs_BadDepths [.ref C_CageError, .type "ValueError", .type "Exception", .type "BaseException", .type "object"] hd_BadDepths sn_BadDepths su_BadDepths ab_BadDepths co_BadDepths dd_BadDepths k0_BadDepths k1_BadDepths k2_BadDepths k3_BadDepths k5_BadDepths "ValueError.__new__"))
    (lN_BadDepths : K.lookup N_BadDepths = some ⟨c1_BadDepths, d1_BadDepths, .dict es_BadDepths ep_BadDepths, sl_BadDepths⟩)
    (kN_BadDepths : strKeys es_BadDepths = true)
    (iN_BadDepths : (quietNames.all fun n => (nsFind es_BadDepths n).isNone) = true)
    (ca_BadDepths : PySem.W.findIn K (.ref C_BadDepths) "__class__" = some (some (.builtin "object.__class__")))
    (mo_BadDepths : PySem.W.mroIn K C_BadDepths (.type "object") = some true)
    (ex_BadDepths_CageError : PySem.W.exmOne K (.ref C_BadDepths) (.ref C_CageError) = some true)
    (kt_BadDepths_NoChange : PySem.W.kitOne K (.ref C_BadDepths) (.ref C_NoChange) = some false)
    (kt_BadDepths_UnknownLevel : PySem.W.kitOne K (.ref C_BadDepths) (.ref C_UnknownLevel) = some false)
    (lC_BadSpeeds : K.lookup C_BadSpeeds = some (excClassObj nm_BadSpeeds q_BadSpeeds C_BadSpeeds N_BadSpeeds bs_BadSpeeds [.ref C_CageError, .type "ValueError", .type "Exception", .type "BaseException", .type "object"] hd_BadSpeeds sn_BadSpeeds su_BadSpeeds ab_BadSpeeds co_BadSpeeds dd_BadSpeeds k0_BadSpeeds k1_BadSpeeds k2_BadSpeeds k3_BadSpeeds k5_BadSpeeds "ValueError.__new__"))
    (lN_BadSpeeds : K.lookup N_BadSpeeds = some ⟨c1_BadSpeeds, d1_BadSpeeds, .dict es_BadSpeeds ep_BadSpeeds, sl_BadSpeeds⟩)
    (kN_BadSpeeds : strKeys es_BadSpeeds = true)
    (iN_BadSpeeds : (quietNames.all fun n => (nsFind es_BadSpeeds n).isNone) = true)
    (ca_BadSpeeds : PySem.W.findIn K (.ref C_BadSpeeds) "__class__" = some (some (.builtin "object.__class__")))
    (mo_BadSpeeds : PySem.W.mroIn K C_BadSpeeds (.type "object") = some true)
    (ex_BadSpeeds_CageError : PySem.W.exmOne K (.ref C_BadSpeeds) (.ref C_CageError) = some true)
    (kt_BadSpeeds_NoChange : PySem.W.kitOne K (.ref C_BadSpeeds) (.ref C_NoChange) = some false)
    (kt_BadSpeeds_UnknownLevel : PySem.W.kitOne K (.ref C_BadSpeeds) (.ref C_UnknownLevel) = some false)
    (lC_BookFull : K.lookup C_BookFull = some (excClassObj nm_BookFull q_BookFull C_BookFull N_BookFull bs_BookFull [.ref C_CageError, .type "ValueError", .type "Exception", .type "BaseException", .type "object"] hd_BookFull sn_BookFull su_BookFull ab_BookFull co_BookFull dd_BookFull k0_BookFull k1_BookFull k2_BookFull k3_BookFull k5_BookFull "ValueError.__new__"))
    (lN_BookFull : K.lookup N_BookFull = some ⟨c1_BookFull, d1_BookFull, .dict es_BookFull ep_BookFull, sl_BookFull⟩)
    (kN_BookFull : strKeys es_BookFull = true)
    (iN_BookFull : (quietNames.all fun n => (nsFind es_BookFull n).isNone) = true)
    (ca_BookFull : PySem.W.findIn K (.ref C_BookFull) "__class__" = some (some (.builtin "object.__class__")))
    (mo_BookFull : PySem.W.mroIn K C_BookFull (.type "object") = some true)
    (ex_BookFull_CageError : PySem.W.exmOne K (.ref C_BookFull) (.ref C_CageError) = some true)
    (kt_BookFull_NoChange : PySem.W.kitOne K (.ref C_BookFull) (.ref C_NoChange) = some false)
    (kt_BookFull_UnknownLevel : PySem.W.kitOne K (.ref C_BookFull) (.ref C_UnknownLevel) = some false)
    (lC_NoChange : K.lookup C_NoChange = some (excClassObj nm_NoChange q_NoChange C_NoChange N_NoChange bs_NoChange [.ref C_CageError, .type "ValueError", .type "Exception", .type "BaseException", .type "object"] hd_NoChange sn_NoChange su_NoChange ab_NoChange co_NoChange dd_NoChange k0_NoChange k1_NoChange k2_NoChange k3_NoChange k5_NoChange "ValueError.__new__"))
    (lN_NoChange : K.lookup N_NoChange = some ⟨c1_NoChange, d1_NoChange, .dict es_NoChange ep_NoChange, sl_NoChange⟩)
    (kN_NoChange : strKeys es_NoChange = true)
    (iN_NoChange : (quietNames.all fun n => (nsFind es_NoChange n).isNone) = true)
    (ca_NoChange : PySem.W.findIn K (.ref C_NoChange) "__class__" = some (some (.builtin "object.__class__")))
    (mo_NoChange : PySem.W.mroIn K C_NoChange (.type "object") = some true)
    (ex_NoChange_CageError : PySem.W.exmOne K (.ref C_NoChange) (.ref C_CageError) = some true)
    (kt_NoChange_NoChange : PySem.W.kitOne K (.ref C_NoChange) (.ref C_NoChange) = some true)
    (kt_NoChange_UnknownLevel : PySem.W.kitOne K (.ref C_NoChange) (.ref C_UnknownLevel) = some false)
    : ∃ Z : Adr, ∃ fd : FuncData, (∀ (s : Shared) (v : Value), BindsTo s fd ⟨[v], []⟩ [("_law_script", v)]) ∧ ∀ base : Heap, K.In base → base.Ns mainGlobals mg → FnOk l.prog w K mg base CX0 8 fa fd ["_law_script"] (SP_law K Z) := by
  have e := hfa.symm.trans (PySem.W.mg_of X G a_law)
  cases e
  let Z : Adr := ⟨C_UnknownLevel, C_UnknownLoad, C_BadLoads, C_BadCodes, C_BadDepths, C_BadSpeeds, C_BookFull, C_NoChange, C_CageError, C_Yard, C_Bells, C_Standing, C_Book, C_Works, ta_CAGE_SPOTS⟩
  have T : Txt K mg Z := ⟨PySem.W.mg_none_of X G z_len, PySem.W.mg_none_of X G z_zip, PySem.W.mg_none_of X G z_list, PySem.W.mg_none_of X G z_range, PySem.W.mg_none_of X G z_isinstance, PySem.W.mg_none_of X G z_tuple, PySem.W.mg_none_of X G z_int, PySem.W.mg_none_of X G z_str, PySem.W.mg_none_of X G z_bool, PySem.W.mg_none_of X G z_min, ⟨_, PySem.W.mg_of X G n_MOST_LOADS, ⟨_, rfl⟩⟩, ⟨_, PySem.W.mg_of X G n_FEWEST_STROKES, ⟨_, rfl⟩⟩, ⟨_, PySem.W.mg_of X G n_MOST_STROKES, ⟨_, rfl⟩⟩, ⟨_, PySem.W.mg_of X G n_FEWEST_LEVELS, ⟨_, rfl⟩⟩, ⟨_, PySem.W.mg_of X G n_MOST_LEVELS, ⟨_, rfl⟩⟩, ⟨_, PySem.W.mg_of X G n_GREATEST_DEPTH, ⟨_, rfl⟩⟩, ⟨_, PySem.W.mg_of X G n_GREATEST_SPEED, ⟨_, rfl⟩⟩, ⟨_, PySem.W.mg_of X G n_MOST_DEEDS, ⟨_, rfl⟩⟩, ⟨_, PySem.W.mg_of X G n_CAGE_SPOTS, rfl⟩, fun H => .inr ⟨_, _, _, lt_CAGE_SPOTS, rfl, rfl, (by show 2 ≤ sizeLine; decide), .cons ⟨_, rfl⟩ (.cons ⟨_, rfl⟩ .nil)⟩, PySem.W.mg_of X G m_UnknownLevel, PySem.W.mg_of X G m_UnknownLoad, PySem.W.mg_of X G m_BadLoads, PySem.W.mg_of X G m_BadCodes, PySem.W.mg_of X G m_BadDepths, PySem.W.mg_of X G m_BadSpeeds, PySem.W.mg_of X G m_BookFull, PySem.W.mg_of X G m_NoChange, PySem.W.mg_of X G m_CageError, PySem.W.mg_of X G m_Yard, PySem.W.mg_of X G m_Bells, PySem.W.mg_of X G m_Standing, PySem.W.mg_of X G m_Book, PySem.W.mg_of X G m_Works, ⟨pg_Yard, hd_Yard, po_Yard, sa_Yard⟩, na_Yard_kinds, na_Yard_where, na_Yard_many, ⟨pg_Bells, hd_Bells, po_Bells, sa_Bells⟩, na_Bells_codes, na_Bells_failed, na_Bells_state, ⟨pg_Standing, hd_Standing, po_Standing, sa_Standing⟩, na_Standing_place, na_Standing_opened, na_Standing_bells, na_Standing_yard, ⟨pg_Book, hd_Book, po_Book, sa_Book⟩, na_Book_first, na_Book_most, na_Book_rows, ⟨pg_Works, hd_Works, po_Works, sa_Works⟩, na_Works_depths, na_Works_slow, na_Works_fast, na_Works_goals, na_Works_log, exc_mk lC_UnknownLevel lN_UnknownLevel kN_UnknownLevel iN_UnknownLevel l0_0 e0_0 lN0_0 kN0_0 iN0_0, ⟨exc_mk lC_UnknownLevel lN_UnknownLevel kN_UnknownLevel iN_UnknownLevel l0_0 e0_0 lN0_0 kN0_0 iN0_0, ca_UnknownLevel, mo_UnknownLevel⟩, ex_UnknownLevel_CageError, kt_UnknownLevel_NoChange, kt_UnknownLevel_UnknownLevel, exc_mk lC_UnknownLoad lN_UnknownLoad kN_UnknownLoad iN_UnknownLoad l0_0 e0_0 lN0_0 kN0_0 iN0_0, ⟨exc_mk lC_UnknownLoad lN_UnknownLoad kN_UnknownLoad iN_UnknownLoad l0_0 e0_0 lN0_0 kN0_0 iN0_0, ca_UnknownLoad, mo_UnknownLoad⟩, ex_UnknownLoad_CageError, kt_UnknownLoad_NoChange, kt_UnknownLoad_UnknownLevel, exc_mk lC_BadLoads lN_BadLoads kN_BadLoads iN_BadLoads l0_0 e0_0 lN0_0 kN0_0 iN0_0, ⟨exc_mk lC_BadLoads lN_BadLoads kN_BadLoads iN_BadLoads l0_0 e0_0 lN0_0 kN0_0 iN0_0, ca_BadLoads, mo_BadLoads⟩, ex_BadLoads_CageError, kt_BadLoads_NoChange, kt_BadLoads_UnknownLevel, exc_mk lC_BadCodes lN_BadCodes kN_BadCodes iN_BadCodes l0_0 e0_0 lN0_0 kN0_0 iN0_0, ⟨exc_mk lC_BadCodes lN_BadCodes kN_BadCodes iN_BadCodes l0_0 e0_0 lN0_0 kN0_0 iN0_0, ca_BadCodes, mo_BadCodes⟩, ex_BadCodes_CageError, kt_BadCodes_NoChange, kt_BadCodes_UnknownLevel, exc_mk lC_BadDepths lN_BadDepths kN_BadDepths iN_BadDepths l0_0 e0_0 lN0_0 kN0_0 iN0_0, ⟨exc_mk lC_BadDepths lN_BadDepths kN_BadDepths iN_BadDepths l0_0 e0_0 lN0_0 kN0_0 iN0_0, ca_BadDepths, mo_BadDepths⟩, ex_BadDepths_CageError, kt_BadDepths_NoChange, kt_BadDepths_UnknownLevel, exc_mk lC_BadSpeeds lN_BadSpeeds kN_BadSpeeds iN_BadSpeeds l0_0 e0_0 lN0_0 kN0_0 iN0_0, ⟨exc_mk lC_BadSpeeds lN_BadSpeeds kN_BadSpeeds iN_BadSpeeds l0_0 e0_0 lN0_0 kN0_0 iN0_0, ca_BadSpeeds, mo_BadSpeeds⟩, ex_BadSpeeds_CageError, kt_BadSpeeds_NoChange, kt_BadSpeeds_UnknownLevel, exc_mk lC_BookFull lN_BookFull kN_BookFull iN_BookFull l0_0 e0_0 lN0_0 kN0_0 iN0_0, ⟨exc_mk lC_BookFull lN_BookFull kN_BookFull iN_BookFull l0_0 e0_0 lN0_0 kN0_0 iN0_0, ca_BookFull, mo_BookFull⟩, ex_BookFull_CageError, kt_BookFull_NoChange, kt_BookFull_UnknownLevel, exc_mk lC_NoChange lN_NoChange kN_NoChange iN_NoChange l0_0 e0_0 lN0_0 kN0_0 iN0_0, ⟨exc_mk lC_NoChange lN_NoChange kN_NoChange iN_NoChange l0_0 e0_0 lN0_0 kN0_0 iN0_0, ca_NoChange, mo_NoChange⟩, ex_NoChange_CageError, kt_NoChange_NoChange, kt_NoChange_UnknownLevel⟩
  have F_is_known := fun_mk (st := s_is_known) l_is_known c_is_known k_is_known
  have D_is_known : Def K mg "is_known" s_is_known ["number", "many"] f_is_known _ := ⟨PySem.W.mg_of X G a_is_known, F_is_known, F_is_known.binds fun _ _ _ _ _ _ us hl => match us, hl with | [_, _], _ => rfl⟩
  have F_check_level := fun_mk (st := s_check_level) l_check_level c_check_level k_check_level
  have D_check_level : Def K mg "check_level" s_check_level ["level", "many"] f_check_level _ := ⟨PySem.W.mg_of X G a_check_level, F_check_level, F_check_level.binds fun _ _ _ _ _ _ us hl => match us, hl with | [_, _], _ => rfl⟩
  have F_check_load := fun_mk (st := s_check_load) l_check_load c_check_load k_check_load
  have D_check_load : Def K mg "check_load" s_check_load ["number", "many"] f_check_load _ := ⟨PySem.W.mg_of X G a_check_load, F_check_load, F_check_load.binds fun _ _ _ _ _ _ us hl => match us, hl with | [_, _], _ => rfl⟩
  have F_check_loads := fun_mk (st := s_check_loads) l_check_loads c_check_loads k_check_loads
  have D_check_loads : Def K mg "check_loads" s_check_loads ["loads", "many"] f_check_loads _ := ⟨PySem.W.mg_of X G a_check_loads, F_check_loads, F_check_loads.binds fun _ _ _ _ _ _ us hl => match us, hl with | [_, _], _ => rfl⟩
  have F_Yard_init := fun_mk (st := s_Yard_init) l_Yard_init c_Yard_init k_Yard_init
  have D_Yard_init : IDef K C_Yard "Yard.__init__" s_Yard_init ["self", "loads", "many"] f_Yard_init _ := ⟨⟨mk_Yard_init, a_Yard_init, fn_Yard_init, kc_Yard_init⟩, F_Yard_init, F_Yard_init.binds fun _ _ _ _ _ _ us hl => match us, hl with | [_, _, _], _ => rfl⟩
  have F_Yard_men_aboard := fun_mk (st := s_Yard_men_aboard) l_Yard_men_aboard c_Yard_men_aboard k_Yard_men_aboard
  have D_Yard_men_aboard : MDef K C_Yard "men_aboard" "Yard.men_aboard" s_Yard_men_aboard ["self"] f_Yard_men_aboard _ := ⟨⟨a_Yard_men_aboard, fn_Yard_men_aboard, k_Yard_men_aboard⟩, F_Yard_men_aboard, F_Yard_men_aboard.binds fun _ _ _ _ _ _ us hl => match us, hl with | [_], _ => rfl⟩
  have F_Yard_twin := fun_mk (st := s_Yard_twin) l_Yard_twin c_Yard_twin k_Yard_twin
  have D_Yard_twin : MDef K C_Yard "twin" "Yard.twin" s_Yard_twin ["self"] f_Yard_twin _ := ⟨⟨a_Yard_twin, fn_Yard_twin, k_Yard_twin⟩, F_Yard_twin, F_Yard_twin.binds fun _ _ _ _ _ _ us hl => match us, hl with | [_], _ => rfl⟩
  have F_are_strokes := fun_mk (st := s_are_strokes) l_are_strokes c_are_strokes k_are_strokes
  have D_are_strokes : Def K mg "are_strokes" s_are_strokes ["number"] f_are_strokes _ := ⟨PySem.W.mg_of X G a_are_strokes, F_are_strokes, F_are_strokes.binds fun _ _ _ _ _ _ us hl => match us, hl with | [_], _ => rfl⟩
  have F_check_codes := fun_mk (st := s_check_codes) l_check_codes c_check_codes k_check_codes
  have D_check_codes : Def K mg "check_codes" s_check_codes ["codes", "many"] f_check_codes _ := ⟨PySem.W.mg_of X G a_check_codes, F_check_codes, F_check_codes.binds fun _ _ _ _ _ _ us hl => match us, hl with | [_, _], _ => rfl⟩
  have F_Bells_init := fun_mk (st := s_Bells_init) l_Bells_init c_Bells_init k_Bells_init
  have D_Bells_init : IDef K C_Bells "Bells.__init__" s_Bells_init ["self", "codes"] f_Bells_init _ := ⟨⟨mk_Bells_init, a_Bells_init, fn_Bells_init, kc_Bells_init⟩, F_Bells_init, F_Bells_init.binds fun _ _ _ _ _ _ us hl => match us, hl with | [_, _], _ => rfl⟩
  have F_Bells_twin := fun_mk (st := s_Bells_twin) l_Bells_twin c_Bells_twin k_Bells_twin
  have D_Bells_twin : MDef K C_Bells "twin" "Bells.twin" s_Bells_twin ["self"] f_Bells_twin _ := ⟨⟨a_Bells_twin, fn_Bells_twin, k_Bells_twin⟩, F_Bells_twin, F_Bells_twin.binds fun _ _ _ _ _ _ us hl => match us, hl with | [_], _ => rfl⟩
  have F_check_depths := fun_mk (st := s_check_depths) l_check_depths c_check_depths k_check_depths
  have D_check_depths : Def K mg "check_depths" s_check_depths ["depths"] f_check_depths _ := ⟨PySem.W.mg_of X G a_check_depths, F_check_depths, F_check_depths.binds fun _ _ _ _ _ _ us hl => match us, hl with | [_], _ => rfl⟩
  have F_drum_whole := fun_mk (st := s_drum_whole) l_drum_whole c_drum_whole k_drum_whole
  have D_drum_whole : Def K mg "drum_whole" s_drum_whole ["depths"] f_drum_whole _ := ⟨PySem.W.mg_of X G a_drum_whole, F_drum_whole, F_drum_whole.binds fun _ _ _ _ _ _ us hl => match us, hl with | [_], _ => rfl⟩
  have F_other_place := fun_mk (st := s_other_place) l_other_place c_other_place k_other_place
  have D_other_place : Def K mg "other_place" s_other_place ["depths", "place"] f_other_place _ := ⟨PySem.W.mg_of X G a_other_place, F_other_place, F_other_place.binds fun _ _ _ _ _ _ us hl => match us, hl with | [_, _], _ => rfl⟩
  have F_level_at := fun_mk (st := s_level_at) l_level_at c_level_at k_level_at
  have D_level_at : Def K mg "level_at" s_level_at ["depths", "depth"] f_level_at _ := ⟨PySem.W.mg_of X G a_level_at, F_level_at, F_level_at.binds fun _ _ _ _ _ _ us hl => match us, hl with | [_, _], _ => rfl⟩
  have F_check_speeds := fun_mk (st := s_check_speeds) l_check_speeds c_check_speeds k_check_speeds
  have D_check_speeds : Def K mg "check_speeds" s_check_speeds ["slow", "fast"] f_check_speeds _ := ⟨PySem.W.mg_of X G a_check_speeds, F_check_speeds, F_check_speeds.binds fun _ _ _ _ _ _ us hl => match us, hl with | [_, _], _ => rfl⟩
  have F_Standing_init := fun_mk (st := s_Standing_init) l_Standing_init c_Standing_init k_Standing_init
  have D_Standing_init : IDef K C_Standing "Standing.__init__" s_Standing_init ["self", "place", "opened", "bells", "yard"] f_Standing_init _ := ⟨⟨mk_Standing_init, a_Standing_init, fn_Standing_init, kc_Standing_init⟩, F_Standing_init, F_Standing_init.binds fun _ _ _ _ _ _ us hl => match us, hl with | [_, _, _, _, _], _ => rfl⟩
  have F_Standing_twin := fun_mk (st := s_Standing_twin) l_Standing_twin c_Standing_twin k_Standing_twin
  have D_Standing_twin : MDef K C_Standing "twin" "Standing.twin" s_Standing_twin ["self"] f_Standing_twin _ := ⟨⟨a_Standing_twin, fn_Standing_twin, k_Standing_twin⟩, F_Standing_twin, F_Standing_twin.binds fun _ _ _ _ _ _ us hl => match us, hl with | [_], _ => rfl⟩
  have F_Book_init := fun_mk (st := s_Book_init) l_Book_init c_Book_init k_Book_init
  have D_Book_init : IDef K C_Book "Book.__init__" s_Book_init ["self", "first", "most"] f_Book_init _ := ⟨⟨mk_Book_init, a_Book_init, fn_Book_init, kc_Book_init⟩, F_Book_init, F_Book_init.binds fun _ _ _ _ _ _ us hl => match us, hl with | [_, _, _], _ => rfl⟩
  have F_Book_write := fun_mk (st := s_Book_write) l_Book_write c_Book_write k_Book_write
  have D_Book_write : MDef K C_Book "write" "Book.write" s_Book_write ["self", "deed", "ticks", "speed", "standing"] f_Book_write _ := ⟨⟨a_Book_write, fn_Book_write, k_Book_write⟩, F_Book_write, F_Book_write.binds fun _ _ _ _ _ _ us hl => match us, hl with | [_, _, _, _, _], _ => rfl⟩
  have F_Book_now := fun_mk (st := s_Book_now) l_Book_now c_Book_now k_Book_now
  have D_Book_now : MDef K C_Book "now" "Book.now" s_Book_now ["self"] f_Book_now _ := ⟨⟨a_Book_now, fn_Book_now, k_Book_now⟩, F_Book_now, F_Book_now.binds fun _ _ _ _ _ _ us hl => match us, hl with | [_], _ => rfl⟩
  have F_Book_latest := fun_mk (st := s_Book_latest) l_Book_latest c_Book_latest k_Book_latest
  have D_Book_latest : MDef K C_Book "latest" "Book.latest" s_Book_latest ["self"] f_Book_latest _ := ⟨⟨a_Book_latest, fn_Book_latest, k_Book_latest⟩, F_Book_latest, F_Book_latest.binds fun _ _ _ _ _ _ us hl => match us, hl with | [_], _ => rfl⟩
  have F_Book_told := fun_mk (st := s_Book_told) l_Book_told c_Book_told k_Book_told
  have D_Book_told : MDef K C_Book "told" "Book.told" s_Book_told ["self"] f_Book_told _ := ⟨⟨a_Book_told, fn_Book_told, k_Book_told⟩, F_Book_told, F_Book_told.binds fun _ _ _ _ _ _ us hl => match us, hl with | [_], _ => rfl⟩
  have F_Works_init := fun_mk (st := s_Works_init) l_Works_init c_Works_init k_Works_init
  have D_Works_init : IDef K C_Works "Works.__init__" s_Works_init ["self", "depths", "codes", "slow", "fast", "loads"] f_Works_init _ := ⟨⟨mk_Works_init, a_Works_init, fn_Works_init, kc_Works_init⟩, F_Works_init, F_Works_init.binds fun _ _ _ _ _ _ us hl => match us, hl with | [_, _, _, _, _, _], _ => rfl⟩
  have F_Works_open_gate := fun_mk (st := s_Works_open_gate) l_Works_open_gate c_Works_open_gate k_Works_open_gate
  have D_Works_open_gate : MDef K C_Works "open_gate" "Works.open_gate" s_Works_open_gate ["self", "level"] f_Works_open_gate _ := ⟨⟨a_Works_open_gate, fn_Works_open_gate, k_Works_open_gate⟩, F_Works_open_gate, F_Works_open_gate.binds fun _ _ _ _ _ _ us hl => match us, hl with | [_, _], _ => rfl⟩
  have F_Works_shut_gate := fun_mk (st := s_Works_shut_gate) l_Works_shut_gate c_Works_shut_gate k_Works_shut_gate
  have D_Works_shut_gate : MDef K C_Works "shut_gate" "Works.shut_gate" s_Works_shut_gate ["self", "level"] f_Works_shut_gate _ := ⟨⟨a_Works_shut_gate, fn_Works_shut_gate, k_Works_shut_gate⟩, F_Works_shut_gate, F_Works_shut_gate.binds fun _ _ _ _ _ _ us hl => match us, hl with | [_, _], _ => rfl⟩
  have F_Works_turn_gate := fun_mk (st := s_Works_turn_gate) l_Works_turn_gate c_Works_turn_gate k_Works_turn_gate
  have D_Works_turn_gate : MDef K C_Works "turn_gate" "Works.turn_gate" s_Works_turn_gate ["self", "word", "level", "wanted"] f_Works_turn_gate _ := ⟨⟨a_Works_turn_gate, fn_Works_turn_gate, k_Works_turn_gate⟩, F_Works_turn_gate, F_Works_turn_gate.binds fun _ _ _ _ _ _ us hl => match us, hl with | [_, _, _, _], _ => rfl⟩
  have F_Works_write := fun_mk (st := s_Works_write) l_Works_write c_Works_write k_Works_write
  have D_Works_write : MDef K C_Works "write" "Works.write" s_Works_write ["self", "deed", "ticks", "standing"] f_Works_write _ := ⟨⟨a_Works_write, fn_Works_write, k_Works_write⟩, F_Works_write, F_Works_write.binds fun _ _ _ _ _ _ us hl => match us, hl with | [_, _, _, _], _ => rfl⟩
  have F_Works_speed_with := fun_mk (st := s_Works_speed_with) l_Works_speed_with c_Works_speed_with k_Works_speed_with
  have D_Works_speed_with : MDef K C_Works "speed_with" "Works.speed_with" s_Works_speed_with ["self", "standing"] f_Works_speed_with _ := ⟨⟨a_Works_speed_with, fn_Works_speed_with, k_Works_speed_with⟩, F_Works_speed_with, F_Works_speed_with.binds fun _ _ _ _ _ _ us hl => match us, hl with | [_, _], _ => rfl⟩
  have F_Works_now := fun_mk (st := s_Works_now) l_Works_now c_Works_now k_Works_now
  have D_Works_now : MDef K C_Works "now" "Works.now" s_Works_now ["self"] f_Works_now _ := ⟨⟨a_Works_now, fn_Works_now, k_Works_now⟩, F_Works_now, F_Works_now.binds fun _ _ _ _ _ _ us hl => match us, hl with | [_], _ => rfl⟩
  have F_Works_book := fun_mk (st := s_Works_book) l_Works_book c_Works_book k_Works_book
  have D_Works_book : MDef K C_Works "book" "Works.book" s_Works_book ["self"] f_Works_book _ := ⟨⟨a_Works_book, fn_Works_book, k_Works_book⟩, F_Works_book, F_Works_book.binds fun _ _ _ _ _ _ us hl => match us, hl with | [_], _ => rfl⟩
  have F_Works_gates := fun_mk (st := s_Works_gates) l_Works_gates c_Works_gates k_Works_gates
  have D_Works_gates : MDef K C_Works "gates" "Works.gates" s_Works_gates ["self"] f_Works_gates _ := ⟨⟨a_Works_gates, fn_Works_gates, k_Works_gates⟩, F_Works_gates, F_Works_gates.binds fun _ _ _ _ _ _ us hl => match us, hl with | [_], _ => rfl⟩
  have F_l_at := fun_mk (st := s_l_at) l_l_at c_l_at k_l_at
  have D_l_at : Def K mg "_law_at" s_l_at ["_law_script", "_law_k"] f_l_at _ := ⟨PySem.W.mg_of X G a_l_at, F_l_at, F_l_at.binds fun _ _ _ _ _ _ us hl => match us, hl with | [_, _], _ => rfl⟩
  have F_l_draw := fun_mk (st := s_l_draw) l_l_draw c_l_draw k_l_draw
  have D_l_draw : Def K mg "_law_draw" s_l_draw ["_law_cell", "_law_k", "_law_span"] f_l_draw _ := ⟨PySem.W.mg_of X G a_l_draw, F_l_draw, F_l_draw.binds fun _ _ _ _ _ _ us hl => match us, hl with | [_, _, _], _ => rfl⟩
  have F_l_mixed := fun_mk (st := s_l_mixed) l_l_mixed c_l_mixed k_l_mixed
  have D_l_mixed : Def K mg "_law_mixed" s_l_mixed ["_law_script", "_law_k"] f_l_mixed _ := ⟨PySem.W.mg_of X G a_l_mixed, F_l_mixed, F_l_mixed.binds fun _ _ _ _ _ _ us hl => match us, hl with | [_, _], _ => rfl⟩
  have F_l_same := fun_mk (st := s_l_same) l_l_same c_l_same k_l_same
  have D_l_same : Def K mg "_law_same" s_l_same ["_law_found", "_law_due"] f_l_same _ := ⟨PySem.W.mg_of X G a_l_same, F_l_same, F_l_same.binds fun _ _ _ _ _ _ us hl => match us, hl with | [_, _], _ => rfl⟩
  have F_l_depths := fun_mk (st := s_l_depths) l_l_depths c_l_depths k_l_depths
  have D_l_depths : Def K mg "_law_depths" s_l_depths ["_law_cell"] f_l_depths _ := ⟨PySem.W.mg_of X G a_l_depths, F_l_depths, F_l_depths.binds fun _ _ _ _ _ _ us hl => match us, hl with | [_], _ => rfl⟩
  have F_l_codes := fun_mk (st := s_l_codes) l_l_codes c_l_codes k_l_codes
  have D_l_codes : Def K mg "_law_codes" s_l_codes ["_law_cell", "_law_many"] f_l_codes _ := ⟨PySem.W.mg_of X G a_l_codes, F_l_codes, F_l_codes.binds fun _ _ _ _ _ _ us hl => match us, hl with | [_, _], _ => rfl⟩
  have F_l_shaft := fun_mk (st := s_l_shaft) l_l_shaft c_l_shaft k_l_shaft
  have D_l_shaft : Def K mg "_law_shaft" s_l_shaft ["_law_script"] f_l_shaft _ := ⟨PySem.W.mg_of X G a_l_shaft, F_l_shaft, F_l_shaft.binds fun _ _ _ _ _ _ us hl => match us, hl with | [_], _ => rfl⟩
  have F_l_turned := fun_mk (st := s_l_turned) l_l_turned c_l_turned k_l_turned
  have D_l_turned : Def K mg "_law_turned" s_l_turned ["_law_works", "_law_wide", "_law_level"] f_l_turned _ := ⟨PySem.W.mg_of X G a_l_turned, F_l_turned, F_l_turned.binds fun _ _ _ _ _ _ us hl => match us, hl with | [_, _, _], _ => rfl⟩
  have F_law := fun_mk (st := s_law) l_law c_law k_law
  refine ⟨Z, PySem.W.fnOf "law" "law" (defArgs s_law) (defBody s_law) (defScope s_law) .none kV_law dc_law pm_law an_law cd_law ct_law, fun s v => .of_eq rfl, fun base _ _ => ?_⟩
  have G_is_known : FnOk l.prog w K mg base CX0 1 f_is_known _ ["number", "many"] (SP_is_known K Z) := ok_is_known F_is_known T
  have G_Yard_init : FnOk l.prog w K mg base CX0 1 f_Yard_init _ ["self", "loads", "many"] (SP_Yard_init K Z) := ok_Yard_init F_Yard_init T
  have G_Yard_men_aboard : FnOk l.prog w K mg base CX0 1 f_Yard_men_aboard _ ["self"] (SP_Yard_men_aboard K Z) := ok_Yard_men_aboard F_Yard_men_aboard T
  have G_are_strokes : FnOk l.prog w K mg base CX0 1 f_are_strokes _ ["number"] (SP_are_strokes K Z) := ok_are_strokes F_are_strokes T
  have G_Bells_init : FnOk l.prog w K mg base CX0 1 f_Bells_init _ ["self", "codes"] (SP_Bells_init K Z) := ok_Bells_init F_Bells_init T
  have G_check_depths : FnOk l.prog w K mg base (CXf l.prog w) 1 f_check_depths _ ["depths"] (SP_check_depths K Z) := ok_check_depths F_check_depths T
  have G_drum_whole : FnOk l.prog w K mg base CX0 1 f_drum_whole _ ["depths"] (SP_drum_whole K Z) := ok_drum_whole F_drum_whole T
  have G_level_at : FnOk l.prog w K mg base CX0 1 f_level_at _ ["depths", "depth"] (SP_level_at K Z) := ok_level_at F_level_at T
  have G_check_speeds : FnOk l.prog w K mg base (CXf l.prog w) 1 f_check_speeds _ ["slow", "fast"] (SP_check_speeds K Z) := ok_check_speeds F_check_speeds T
  have G_Standing_init : FnOk l.prog w K mg base CX0 1 f_Standing_init _ ["self", "place", "opened", "bells", "yard"] (SP_Standing_init K Z) := ok_Standing_init F_Standing_init T
  have G_Book_init : FnOk l.prog w K mg base CX0 1 f_Book_init _ ["self", "first", "most"] (SP_Book_init K Z) := ok_Book_init F_Book_init T
  have G_Book_now : FnOk l.prog w K mg base CX0 1 f_Book_now _ ["self"] (SP_Book_now K Z) := ok_Book_now F_Book_now T
  have G_Book_latest : FnOk l.prog w K mg base CX0 1 f_Book_latest _ ["self"] (SP_Book_latest K Z) := ok_Book_latest F_Book_latest T
  have G_Book_told : FnOk l.prog w K mg base CX0 1 f_Book_told _ ["self"] (SP_Book_told K Z) := ok_Book_told F_Book_told T
  have G_l_at : FnOk l.prog w K mg base CX0 1 f_l_at _ ["_law_script", "_law_k"] (SP_l_at K Z) := ok_l_at F_l_at T
  have G_l_draw : FnOk l.prog w K mg base CX0 1 f_l_draw _ ["_law_cell", "_law_k", "_law_span"] (SP_l_draw K Z) := ok_l_draw F_l_draw T
  have G_l_mixed : FnOk l.prog w K mg base CX0 1 f_l_mixed _ ["_law_script", "_law_k"] (SP_l_mixed K Z) := ok_l_mixed F_l_mixed T
  have G_check_level : FnOk l.prog w K mg base (CXf l.prog w) 2 f_check_level _ ["level", "many"] (SP_check_level K Z) := ok_check_level F_check_level T D_is_known G_is_known
  have G_check_load : FnOk l.prog w K mg base (CXf l.prog w) 2 f_check_load _ ["number", "many"] (SP_check_load K Z) := ok_check_load F_check_load T D_is_known G_is_known
  have G_check_loads : FnOk l.prog w K mg base (CXf l.prog w) 2 f_check_loads _ ["loads", "many"] (SP_check_loads K Z) := ok_check_loads F_check_loads T D_is_known G_is_known
  have G_check_codes : FnOk l.prog w K mg base (CXf l.prog w) 2 f_check_codes _ ["codes", "many"] (SP_check_codes K Z) := ok_check_codes F_check_codes T D_are_strokes G_are_strokes
  have G_other_place : FnOk l.prog w K mg base CX0 2 f_other_place _ ["depths", "place"] (SP_other_place K Z) := ok_other_place F_other_place T D_drum_whole G_drum_whole
  have G_Book_write : FnOk l.prog w K mg base (CXf l.prog w) 2 f_Book_write _ ["self", "deed", "ticks", "speed", "standing"] (SP_Book_write K Z) := ok_Book_write F_Book_write T D_Book_now G_Book_now
  have G_Works_speed_with : FnOk l.prog w K mg base CX0 2 f_Works_speed_with _ ["self", "standing"] (SP_Works_speed_with K Z) := ok_Works_speed_with F_Works_speed_with T D_Yard_men_aboard G_Yard_men_aboard
  have G_Works_now : FnOk l.prog w K mg base CX0 2 f_Works_now _ ["self"] (SP_Works_now K Z) := ok_Works_now F_Works_now T D_Book_now G_Book_now
  have G_Works_book : FnOk l.prog w K mg base CX0 2 f_Works_book _ ["self"] (SP_Works_book K Z) := ok_Works_book F_Works_book T D_Book_told G_Book_told
  have G_Works_gates : FnOk l.prog w K mg base CX0 2 f_Works_gates _ ["self"] (SP_Works_gates K Z) := ok_Works_gates F_Works_gates T D_Book_latest G_Book_latest
  have G_l_depths : FnOk l.prog w K mg base CX0 2 f_l_depths _ ["_law_cell"] (SP_l_depths K Z) := ok_l_depths F_l_depths T D_l_draw G_l_draw
  have G_l_codes : FnOk l.prog w K mg base CX0 2 f_l_codes _ ["_law_cell", "_law_many"] (SP_l_codes K Z) := ok_l_codes F_l_codes T D_l_draw G_l_draw
  have G_Yard_twin : FnOk l.prog w K mg base CX0 3 f_Yard_twin _ ["self"] (SP_Yard_twin K Z) := ok_Yard_twin F_Yard_twin T D_Yard_init G_Yard_init
  have G_Bells_twin : FnOk l.prog w K mg base CX0 3 f_Bells_twin _ ["self"] (SP_Bells_twin K Z) := ok_Bells_twin F_Bells_twin T D_Bells_init G_Bells_init
  have G_Works_init : FnOk l.prog w K mg base (CXf l.prog w) 3 f_Works_init _ ["self", "depths", "codes", "slow", "fast", "loads"] (SP_Works_init K Z) := ok_Works_init F_Works_init T D_check_depths G_check_depths D_check_codes G_check_codes D_check_speeds G_check_speeds D_check_loads G_check_loads D_Standing_init G_Standing_init D_Book_init G_Book_init D_Bells_init G_Bells_init D_Yard_init G_Yard_init
  have G_Works_write : FnOk l.prog w K mg base (CXf l.prog w) 3 f_Works_write _ ["self", "deed", "ticks", "standing"] (SP_Works_write K Z) := ok_Works_write F_Works_write T D_Book_write G_Book_write D_Works_now G_Works_now D_Works_speed_with G_Works_speed_with
  have G_l_shaft : FnOk l.prog w K mg base CX0 3 f_l_shaft _ ["_law_script"] (SP_l_shaft K Z) := ok_l_shaft F_l_shaft T D_l_depths G_l_depths D_l_codes G_l_codes D_l_at G_l_at D_l_draw G_l_draw
  have G_Standing_twin : FnOk l.prog w K mg base CX0 4 f_Standing_twin _ ["self"] (SP_Standing_twin K Z) := ok_Standing_twin F_Standing_twin T D_Standing_init G_Standing_init D_Bells_twin G_Bells_twin D_Yard_twin G_Yard_twin
  have G_Works_turn_gate : FnOk l.prog w K mg base (CXf l.prog w) 5 f_Works_turn_gate _ ["self", "word", "level", "wanted"] (SP_Works_turn_gate K Z) := ok_Works_turn_gate F_Works_turn_gate T D_Standing_twin G_Standing_twin D_check_level G_check_level D_Works_write G_Works_write D_Book_latest G_Book_latest
  have G_l_same : FnOk l.prog w K mg base CX0 5 f_l_same _ ["_law_found", "_law_due"] (SP_l_same K Z) := ok_l_same F_l_same T D_l_same
  have G_Works_open_gate : FnOk l.prog w K mg base (CXf l.prog w) 6 f_Works_open_gate _ ["self", "level"] (SP_Works_open_gate K Z) := ok_Works_open_gate F_Works_open_gate T D_Works_turn_gate G_Works_turn_gate
  have G_Works_shut_gate : FnOk l.prog w K mg base (CXf l.prog w) 6 f_Works_shut_gate _ ["self", "level"] (SP_Works_shut_gate K Z) := ok_Works_shut_gate F_Works_shut_gate T D_Works_turn_gate G_Works_turn_gate
  have G_l_turned : FnOk l.prog w K mg base CX0 7 f_l_turned _ ["_law_works", "_law_wide", "_law_level"] (SP_l_turned K Z) := ok_l_turned F_l_turned T D_Works_open_gate G_Works_open_gate D_Works_shut_gate G_Works_shut_gate
  exact ok_law F_law T D_l_shaft G_l_shaft D_Works_init G_Works_init D_l_mixed G_l_mixed D_l_turned G_l_turned D_l_same G_l_same D_Works_book G_Works_book D_Works_gates G_Works_gates D_Works_now G_Works_now
theorem spLaw_any {K : PySem.W.Frag} {Z : Adr} {H : Hp} {a : Addr} {ns : List Int} (hl : ns.length ≤ 63) (hS : SqL K H a (ns.map V.int)) {Q : VK} {E : XK} (q : ∀ H', Q (.bl true) H') : SP_law K Z [.ref a] H Q E := ⟨a, ns, rfl, hS, hl, q⟩
def SPl (K : PySem.W.Frag) : Sp := fun vs H Q _ => ∃ (a : Addr) (ns : List Int), vs = [.ref a] ∧ SqL K H a (ns.map V.int) ∧ ns.length ≤ 63 ∧ ∀ H', Q (.bl true) H'
theorem walk {l : PySem.W.OpenLaw} {q : Program} {loose : List Str} {XP : (Str → Option Value) → Heap → Prop} {YP : World → Heap → Prop} {d : DefRec} {K : Params → PySem.W.Frag} (hn : l.most = some 63) (hdf : d.params.defaults = [])
    (hY : ∀ (w : World) (h : Heap), YP w h → (K w.params).In h)
    (F : ∀ (w : World) (mg : Str → Option Value) (fa : Addr) (h : Heap), (K w.params).In h → h.Ns mainGlobals mg → mg d.name = some (.ref fa) →
      ∃ Z : Adr, ∃ fd : FuncData, (∀ (s : Shared) (u : Value), BindsTo s fd ⟨[u], []⟩ [("_law_script", u)]) ∧ ∀ base : Heap, (K w.params).In base → base.Ns mainGlobals mg → FnOk l.prog w (K w.params) mg base CX0 8 fa fd ["_law_script"] (SP_law (K w.params) Z)) :
    PySem.W.WalkO q loose XP YP l.row.toRowW d [] (fun f vs => PySem.call f vs) :=
  L2.walk_of (n := 63) (k := 8) (x := "_law_script") (CX := fun _ => CX0) (sp := fun w => SPl (K w.params)) hn (by decide) hdf ⟨rfl, by decide, by decide⟩ hY
    (fun w mg fa h a b c => let ⟨Z, fd, b1, b2⟩ := F w mg fa h a b c; ⟨fd, b1, fun base x y => (b2 base x y).imp fun vs H Q E ⟨a, ns, e, hS, hl, q⟩ => by subst e; exact spLaw_any hl hS q⟩) (fun _ _ a ns hl _ hS => ⟨a, ns, rfl, hS, hl, fun _ => rfl⟩) fun _ _ _ _ _ z => z
end K24
namespace PySem.W.Fast
def tw14888766048986307637 : Unit := ()
def tw16730015245313427273 : Unit := ()
def tw12478367790943284933 : Unit := ()
def tw16288173170264281181 : Unit := ()
def tw1708899629957366630 : Unit := ()
def tw3737361044293275701 : Unit := ()
def tw16475422135728007060 : Unit := ()
def tw3988221870903190257 : Unit := ()
def tw11823387127385744743 : Unit := ()
def tw14594162594325316925 : Unit := ()
def tw4240166081887917422 : Unit := ()
def tw18325502546571841076 : Unit := ()
def tw4112724763440688183 : Unit := ()
def tw4368300898933194288 : Unit := ()
def tw15089594112407473842 : Unit := ()
def tw15421811677116299672 : Unit := ()
def tw8480506181437467609 : Unit := ()
def tw7287126170965476950 : Unit := ()
def tw8227445132472913662 : Unit := ()
def tw15481493093577895906 : Unit := ()
def tw6957125905642516798 : Unit := ()
def tw991180811210867608 : Unit := ()
def tw870707961998445370 : Unit := ()
def tw1694468901888362785 : Unit := ()
def tw2112625437258920312 : Unit := ()
def tw10529574312107242447 : Unit := ()
def tw9682383161612116720 : Unit := ()
def tw2922666725560217119 : Unit := ()
def tw6403112299622570740 : Unit := ()
def tw17892832014480934927 : Unit := ()
def tw15169428924535150189 : Unit := ()
def tw11141274878000443176 : Unit := ()
def tw11585435784086514544 : Unit := ()
def tw2479703394317868778 : Unit := ()
def tw9182750482931978006 : Unit := ()
def tw6148576353530563320 : Unit := ()
def tw16160064361476295662 : Unit := ()
def tw1489523276993705080 : Unit := ()
def tw6146773389976025398 : Unit := ()
def tw16700001969492740327 : Unit := ()
def tw16713419840102140082 : Unit := ()
def tw14729134465028376046 : Unit := ()
def tw16879900076753740753 : Unit := ()
def tw18180248452055885777 : Unit := ()
def tw12788138507565935897 : Unit := ()
def tw183708235554664294 : Unit := ()
def tw458065200592264184 : Unit := ()
def tw5661156971626807690 : Unit := ()
def tw5533519702370358649 : Unit := ()
def tw8132498161580006511 : Unit := ()
def tw18128357028129370952 : Unit := ()
def tw1011780323182012902 : Unit := ()
def tw17408756607147866177 : Unit := ()
def tw15933422189447614921 : Unit := ()
def tw4731791505213426433 : Unit := ()
def tw9338686271663562450 : Unit := ()
def tw13840380096206489556 : Unit := ()
def tw12019364713106176859 : Unit := ()
def tw18165007455993196514 : Unit := ()
def tw3438449948499530283 : Unit := ()
def tw17594217265823278402 : Unit := ()
def tw17741946640754456335 : Unit := ()
def tw5388411166607383673 : Unit := ()
def tw16668174836687291579 : Unit := ()
def tw3193562386203159536 : Unit := ()
def tw14094681309674029330 : Unit := ()
def tw3935721964555260583 : Unit := ()
def tw8785382177085015213 : Unit := ()
def tw16717725930937516194 : Unit := ()
def tw14267982160596811546 : Unit := ()
def tw7722457505001696358 : Unit := ()
def tw2632618933182194239 : Unit := ()
def tw4755553659433572488 : Unit := ()
def tw5178545680158466474 : Unit := ()
def tw8091466871366209908 : Unit := ()
def tw14597232623681663625 : Unit := ()
def tw12109059212180602219 : Unit := ()
def tw906786130778131995 : Unit := ()
def tw3873814361235065817 : Unit := ()
def tw17640600984175650508 : Unit := ()
def tw10222539541938239474 : Unit := ()
def tw2274620546568817345 : Unit := ()
def tw867663909227715349 : Unit := ()
def tw12644946879157518120 : Unit := ()
def tw17440877402751995672 : Unit := ()
def tw3108050290342722510 : Unit := ()
def tw8388060954389242577 : Unit := ()
def tw4776366599543323048 : Unit := ()
def tw3050070260988801210 : Unit := ()
def tw16682606403620087479 : Unit := ()
def tw4052635247674807077 : Unit := ()
def tw2145088004747669936 : Unit := ()
def tw15796164977944165654 : Unit := ()
def tw15659157899083030278 : Unit := ()
def tw3456123331720311348 : Unit := ()
def tw15696425057263574627 : Unit := ()
def tw14675604458236368490 : Unit := ()
def tw15792325260194416891 : Unit := ()
def tw14509170593834208883 : Unit := ()
def tw2462513135101455951 : Unit := ()
def tw2359824237552303032 : Unit := ()
def tw18022515348935170309 : Unit := ()
def tw2106861168420603509 : Unit := ()
def tw15499881870924712948 : Unit := ()
def tw7458971962605395010 : Unit := ()
def tw10215771441511114113 : Unit := ()
def tw13829770723890762230 : Unit := ()
def tw6455061016262121137 : Unit := ()
def tw1411023929735602294 : Unit := ()
def tw9609356788862193036 : Unit := ()
def tw5260270996012157110 : Unit := ()
def tw14341362826713458988 : Unit := ()
def tw8108053325743613377 : Unit := ()
def tw4942658687996847393 : Unit := ()
def tw18399358824016810508 : Unit := ()
def tw1000249152914245473 : Unit := ()
def tw3527443468513769607 : Unit := ()
def tw5587737956820069182 : Unit := ()
def tw3669126312292519791 : Unit := ()
def tw11463913751558582882 : Unit := ()
def tw9466906554060953442 : Unit := ()
def tw4860851985266281794 : Unit := ()
def tw12026888532936462654 : Unit := ()
def tw15480020942887409647 : Unit := ()
def tw235403557584990380 : Unit := ()
def tw17881269763035866954 : Unit := ()
def tw11360138407244746028 : Unit := ()
def tw5651388799355015367 : Unit := ()
def tw4638605628853512136 : Unit := ()
def tw9967845197353188124 : Unit := ()
def tw9413389999290264192 : Unit := ()
def tw10537709206961209104 : Unit := ()
def tw6595955154727839377 : Unit := ()
def tw3053876289739222816 : Unit := ()
def tw16349616817039327317 : Unit := ()
def tw8926217270624998520 : Unit := ()
def tw4660650995335634312 : Unit := ()
def tw10102593274202304564 : Unit := ()
def tw6459766633815617094 : Unit := ()
def tw13993828143099379963 : Unit := ()
def tw16969671459343333700 : Unit := ()
def tw2170398238450843995 : Unit := ()
def tw14608087348903259276 : Unit := ()
def tw12634895532889685454 : Unit := ()
def tw14792729286438253595 : Unit := ()
def tw9695979638829720705 : Unit := ()
def tw16281634560150652017 : Unit := ()
def tw14897443900771311795 : Unit := ()
def tw2470887786975681886 : Unit := ()
def tw64359240519802913 : Unit := ()
def tw13131120853708491943 : Unit := ()
def tw10486354503281462968 : Unit := ()
def tw2142727567725506476 : Unit := ()
def tw13555640302024935174 : Unit := ()
def tw2795722201681195885 : Unit := ()
def tw2756609931488507681 : Unit := ()
def tw16428270337415182598 : Unit := ()
def tw18350580774112901824 : Unit := ()
def tw9577474306245557425 : Unit := ()
def tw8377423140248155710 : Unit := ()
def tw3294277226998646669 : Unit := ()
def tw16318909073271129704 : Unit := ()
def tw3988581778318400113 : Unit := ()
def tw17687570477315343215 : Unit := ()
def tw6515271897090655114 : Unit := ()
def tw13784793712204020470 : Unit := ()
def tw2254842550936922588 : Unit := ()
def tw967792697263139142 : Unit := ()
def tw6926182367791586061 : Unit := ()
def tw5998271564912828184 : Unit := ()
def tw14447570578209869373 : Unit := ()
def tw1899586255809576695 : Unit := ()
def tw2693346963480892880 : Unit := ()
def tw17460526549970195929 : Unit := ()
def tw8723701031299090903 : Unit := ()
def tw18245624990331207981 : Unit := ()
def tw14476174420825138629 : Unit := ()
def tw15150787275898532020 : Unit := ()
def tw15315802885545307515 : Unit := ()
def tw13669422271076936140 : Unit := ()
def tw14187397828382246584 : Unit := ()
def tw4301083705743829926 : Unit := ()
def tw726633166685702637 : Unit := ()
def tw13746436167491822605 : Unit := ()
def tw5942053182841373242 : Unit := ()
def tw15216912118023654690 : Unit := ()
def tw16917890569275621804 : Unit := ()
def tw4866675555295567727 : Unit := ()
def tw11890424514110539185 : Unit := ()
def tw10105600448756909705 : Unit := ()
def tw11960051624652249357 : Unit := ()
def tw9774863147185761350 : Unit := ()
def tw8070816763688609165 : Unit := ()
def tw8126568031549332759 : Unit := ()
def tw17553353255624908649 : Unit := ()
def tw2239575063435822347 : Unit := ()
def tw10643065897354320664 : Unit := ()
def tw13217278211879324196 : Unit := ()
def tw9013305404513011454 : Unit := ()
def tw7931633533685396180 : Unit := ()
def tw9950697745471702579 : Unit := ()
def tw10348303185922670160 : Unit := ()
def tw13970584714316028589 : Unit := ()
def tw6999782312037454781 : Unit := ()
def tw4570484927439741803 : Unit := ()
def tw685201827575589078 : Unit := ()
def tw3087148744672239668 : Unit := ()
def tw17769245280903430682 : Unit := ()
def tw16487823522720622694 : Unit := ()
def tw10946615266829544937 : Unit := ()
def tw1828549219194990154 : Unit := ()
def tw14779574456322142998 : Unit := ()
def tw8542564268817293326 : Unit := ()
def tw7635646840447567924 : Unit := ()
def tw6616248802140318095 : Unit := ()
def tw16683955031570374433 : Unit := ()
def tw3910498335464598806 : Unit := ()
def tw11590537099227450530 : Unit := ()
def tw11020785960701456205 : Unit := ()
def tw17994521427210377417 : Unit := ()
def tw4911372266425292173 : Unit := ()
def tw18442757388591377245 : Unit := ()
def tw15787588809905510414 : Unit := ()
def tw8522308762085615699 : Unit := ()
def tw11826104879230706826 : Unit := ()
def tw12423446729548769138 : Unit := ()
def tw296442776905542907 : Unit := ()
def tw12355318788871624936 : Unit := ()
def tw13265246725341544339 : Unit := ()
def tw7735479916883960846 : Unit := ()
def tw12414579693180973105 : Unit := ()
def tw16397122471711202593 : Unit := ()
def tw8966002471463112670 : Unit := ()
def tw11286366540421368595 : Unit := ()
def tw17738853139477319497 : Unit := ()
def tw7724259409863746862 : Unit := ()
def tw11746815061527058639 : Unit := ()
def tw12608534950175430010 : Unit := ()
def tw126477768318705185 : Unit := ()
def tw6390327737467099782 : Unit := ()
def tw11462840016305587149 : Unit := ()
def tw9424381418989097667 : Unit := ()
def tw1646499452550253223 : Unit := ()
def tw17564838523242930707 : Unit := ()
def tw3324406424914530282 : Unit := ()
def tw8006966294639764334 : Unit := ()
def tw13362094065199284133 : Unit := ()
def tw10076095673185491362 : Unit := ()
def tw18182736614756783931 : Unit := ()
def tw10759307892352659709 : Unit := ()
def tw14852370086868397878 : Unit := ()
def tw16097416553318297087 : Unit := ()
def tw10458851243360403850 : Unit := ()
def tw290757010488085583 : Unit := ()
def tw17138095533270840268 : Unit := ()
def tw3491501394027377143 : Unit := ()
def tw7172157539509349880 : Unit := ()
def tw13290471828907765048 : Unit := ()
def tw2471421810813687475 : Unit := ()
def tw12127733336992371507 : Unit := ()
def tw8964294023107113120 : Unit := ()
def tw15667710200426322926 : Unit := ()
def tw1173832663364829512 : Unit := ()
def tw5414711698881984171 : Unit := ()
def tw12269595077543581986 : Unit := ()
def tw15720937940029096081 : Unit := ()
def tw1831561597316364257 : Unit := ()
def tw7320055576162214630 : Unit := ()
def tw709601262270472880 : Unit := ()
def tw4532418777705295489 : Unit := ()
def tw4085354581394909735 : Unit := ()
def tw13471305476984611748 : Unit := ()
def tw966617602286179263 : Unit := ()
def tw5880007802711801629 : Unit := ()
def tw9300362480535247933 : Unit := ()
def tw10348745391755074266 : Unit := ()
def tw16128717775926456389 : Unit := ()
def tw16329588978566921506 : Unit := ()
def tw9934899699085613804 : Unit := ()
def tw9793853962561017502 : Unit := ()
def tw6360539060364159415 : Unit := ()
def tw8986146623089347500 : Unit := ()
def tw338940887519135719 : Unit := ()
def tw13915456031957982635 : Unit := ()
def tw12021128644603438604 : Unit := ()
def tw4889256411528164630 : Unit := ()
def tw7190890638007605920 : Unit := ()
def tw15835157163043640536 : Unit := ()
def tw17785826692379082228 : Unit := ()
def tw14634613138107064015 : Unit := ()
def tw12434313240875631716 : Unit := ()
def tw10932862937000734781 : Unit := ()
def tw2832685083379701194 : Unit := ()
def tw3916435074280322750 : Unit := ()
def tw13843702331121018259 : Unit := ()
def tw2517680563322850800 : Unit := ()
def tw2460346243456180550 : Unit := ()
def tw8245045732276815311 : Unit := ()
def tw1569293339753991857 : Unit := ()
def tw2801285538601269316 : Unit := ()
def tw3587802159647687535 : Unit := ()
def tw12963686278586480971 : Unit := ()
def tw12734244239710804939 : Unit := ()
def tw5304353797246435539 : Unit := ()
def tw7644632174279867335 : Unit := ()
def tw9968486892483994685 : Unit := ()
def tw2857853824404482663 : Unit := ()
def tw12642663481088895429 : Unit := ()
def tw15106035860680461343 : Unit := ()
def tw4027229286345444880 : Unit := ()
def tw5167702618318143220 : Unit := ()
def tw5391303368420005936 : Unit := ()
def tw3849784177018906062 : Unit := ()
def tw16751534513856570085 : Unit := ()
def tw2108847332728829210 : Unit := ()
def tw4398279375622426089 : Unit := ()
def tw15574848408584870191 : Unit := ()
def tw10934249441940751722 : Unit := ()
def tw13434259715538089361 : Unit := ()
def tw2377206013726111769 : Unit := ()
def tw11597794154310181804 : Unit := ()
def tw5630488472363279394 : Unit := ()
def tw728456044646368540 : Unit := ()
def tw12450813829466044718 : Unit := ()
def tw2165180493724932472 : Unit := ()
def tw7171687172144087519 : Unit := ()
def tw10312555937723441927 : Unit := ()
def tw11456232571478568944 : Unit := ()
def tw8141039517088561593 : Unit := ()
def tw13968838641906345994 : Unit := ()
def tw6568653817927028318 : Unit := ()
def tw11004946367812885019 : Unit := ()
def tw16033892115204979613 : Unit := ()
def tw10945594210164469036 : Unit := ()
def tw18257332960879594559 : Unit := ()
def tw8635119179345816246 : Unit := ()
def tw4746723502524123837 : Unit := ()
def tw17659071075047153707 : Unit := ()
def tw3687095872515373703 : Unit := ()
def tw8424853220352686499 : Unit := ()
def tw12161404059973420377 : Unit := ()
def tw15316195072251636425 : Unit := ()
def tw7983417234662376083 : Unit := ()
def tw18144074609854046362 : Unit := ()
def tw13823722754448261279 : Unit := ()
def tw2207976183262862570 : Unit := ()
def tw4434042752060717619 : Unit := ()
def tw13126965142005784885 : Unit := ()
def tw17958822938087310875 : Unit := ()
def tw4455546350320987098 : Unit := ()
def tw13017056390073738525 : Unit := ()
def tw7356027465996443756 : Unit := ()
def tw15061656311667892585 : Unit := ()
def tw16456999397874151185 : Unit := ()
def tw4301142722265539022 : Unit := ()
def tw8244930684884736997 : Unit := ()
def tw7473755365885943207 : Unit := ()
def tw6118439960819687727 : Unit := ()
def tw5776176708437914267 : Unit := ()
def tw10885040198673203498 : Unit := ()
def tw7342800923520719417 : Unit := ()
def tw1275085625550627919 : Unit := ()
def tw3653972714611011849 : Unit := ()
def tw12247390530333970631 : Unit := ()
def tw4849077612985945152 : Unit := ()
def tw12799859114725069167 : Unit := ()
def tw11342158339372499307 : Unit := ()
def tw412788119009728303 : Unit := ()
def tw5591113575541543414 : Unit := ()
def tw3151141938500723133 : Unit := ()
def tw15295185490211814398 : Unit := ()
def tw16712100032282368098 : Unit := ()
def tw5439928280832572030 : Unit := ()
def tw11475465867393598773 : Unit := ()
def tw3474221014784381144 : Unit := ()
def tw4182385518774090695 : Unit := ()
def tw9508488347023711197 : Unit := ()
def tw7858200544948748955 : Unit := ()
def tw9262466840801389131 : Unit := ()
def tw3398637637555468324 : Unit := ()
def tw10538996084931440735 : Unit := ()
def tw14628805646751324015 : Unit := ()
def tw4259260776717503927 : Unit := ()
def tw13898117884273577393 : Unit := ()
def tw696598208778863387 : Unit := ()
def tw5766785199723395828 : Unit := ()
def tw8311399415621301937 : Unit := ()
def tw17389039190799683173 : Unit := ()
def tw2411207858482240387 : Unit := ()
def tw9885846342559965443 : Unit := ()
def tw13542144957975535490 : Unit := ()
def tw723224395925354080 : Unit := ()
def tw16651447890181662189 : Unit := ()
def tw9964206432231647415 : Unit := ()
def tw13444823935841216566 : Unit := ()
def tw11025491769166598844 : Unit := ()
def tw2671283633129723320 : Unit := ()
def tw12199754055719767255 : Unit := ()
def tw4136146895470916725 : Unit := ()
def tw2404770940557763648 : Unit := ()
def tw2214768821749476343 : Unit := ()
def tw9529415870179231638 : Unit := ()
def tw12343906576969705165 : Unit := ()
def tw13787371643469716021 : Unit := ()
def tw3446426863208846495 : Unit := ()
def tw2837451923735925149 : Unit := ()
def tw5679261672803416515 : Unit := ()
def tw2157166277672013927 : Unit := ()
def tw10036727733887966688 : Unit := ()
def tw12683143382253793980 : Unit := ()
def tw17480082285790453351 : Unit := ()
def tw12956534608354022039 : Unit := ()
def tw9170638724828617006 : Unit := ()
def tw13131358858658217518 : Unit := ()
def tw14440667930922560845 : Unit := ()
def tw3421459826604321552 : Unit := ()
def tw8823368444315592749 : Unit := ()
def tw7172587037358087063 : Unit := ()
def tw8363731525572737817 : Unit := ()
def tw18015393034809598793 : Unit := ()
def tw13493541825946588010 : Unit := ()
def tw5314005580571909614 : Unit := ()
def tw7509151284457574145 : Unit := ()
def tw5013922114819929405 : Unit := ()
def tw5580350716126312453 : Unit := ()
def tw8896153686136889374 : Unit := ()
def tw2282933364481971268 : Unit := ()
def tw16520116766906824413 : Unit := ()
def tw6023672523844610047 : Unit := ()
def tw17952817732895702725 : Unit := ()
def tw18306535230528064475 : Unit := ()
def tw852773161841017064 : Unit := ()
def tw10422078073218201998 : Unit := ()
def tw12851554642471007787 : Unit := ()
def tw2050617524057733702 : Unit := ()
def tw15066275876438908505 : Unit := ()
def tw15787924060971194541 : Unit := ()
def tw10256297711416621086 : Unit := ()
def tw15586596206061327693 : Unit := ()
def tw7573946855685185366 : Unit := ()
def tw11437343676817205105 : Unit := ()
def tw14580068094417572979 : Unit := ()
def tw8215240955923876935 : Unit := ()
def tw8433471897841313612 : Unit := ()
def tw11855773604546756972 : Unit := ()
def tw17300772402141743610 : Unit := ()
def tw11898364456340267994 : Unit := ()
def tw15459089795494612819 : Unit := ()
def tw2340241851747255842 : Unit := ()
def tw2847559996688376143 : Unit := ()
def tw13963068933680911098 : Unit := ()
def tw3539680926817018284 : Unit := ()
def tw4767316963549542351 : Unit := ()
def tw13934837088093336659 : Unit := ()
def tw4558568265606920978 : Unit := ()
def tw15645504950694636493 : Unit := ()
def tw12198973797775420881 : Unit := ()
def tw10317143662396026821 : Unit := ()
def tw18134457643721785896 : Unit := ()
def tw16662215624686042978 : Unit := ()
def tw16706998231259012922 : Unit := ()
def tw14818562797418928068 : Unit := ()
def tw17423368945113702735 : Unit := ()
def tw986098688574321464 : Unit := ()
def tw7479055407479472099 : Unit := ()
def tw12985785941286764874 : Unit := ()
def tw15069090615838940060 : Unit := ()
def tw512650645171240066 : Unit := ()
def tw14937878763482785611 : Unit := ()
def tw10981877115682677057 : Unit := ()
def tw16020766607776375712 : Unit := ()
def tw10884553782694089229 : Unit := ()
def tw10580240545314783014 : Unit := ()
def tw837952723728754281 : Unit := ()
def tw16596399508117224536 : Unit := ()
def tw17395739185460178199 : Unit := ()
def tw14843538427967113791 : Unit := ()
def tw15010943943789438047 : Unit := ()
def tw2566961457307451472 : Unit := ()
def tw900342430781304677 : Unit := ()
def tw7398901248179258670 : Unit := ()
def tw9971987619725161624 : Unit := ()
def tw662195149863291253 : Unit := ()
def tw6550254944232463475 : Unit := ()
def tw11214543323289201052 : Unit := ()
def tw8215532185337316096 : Unit := ()
def tw16194740639068722198 : Unit := ()
def tw12507250783799283522 : Unit := ()
def tw8324704307983514763 : Unit := ()
def tw1217974185190994080 : Unit := ()
def tw14213251850925239669 : Unit := ()
def tw16766877897394073816 : Unit := ()
def tw5874828732765549453 : Unit := ()
def tw18360364318519473176 : Unit := ()
def tw6063047014229016216 : Unit := ()
def tw4792319218714155464 : Unit := ()
def tw17771436576338627024 : Unit := ()
def tw265745993222731934 : Unit := ()
def tw7092113054252694444 : Unit := ()
def tw9461583947915186330 : Unit := ()
def tw18395078268127762301 : Unit := ()
def tw13775924344289285398 : Unit := ()
def tw14784535870297531834 : Unit := ()
def tw12083408764630066068 : Unit := ()
def tw17971781212306339420 : Unit := ()
def tw6526177885667651958 : Unit := ()
def tw10602003185187394582 : Unit := ()
def tw15678306504200104841 : Unit := ()
def tw2212515822838910567 : Unit := ()
def tw95527448231984411 : Unit := ()
def tw2828676115962287311 : Unit := ()
def tw3188972056316580143 : Unit := ()
def tw3790659464893782294 : Unit := ()
def tw272611580786668041 : Unit := ()
def tw2277244865077910452 : Unit := ()
def tw9384284891645096318 : Unit := ()
def tw16072182991070735006 : Unit := ()
def tw7601263945767783436 : Unit := ()
def tw15163510070298622966 : Unit := ()
def tw14102320581863735310 : Unit := ()
def tw8276248806304791165 : Unit := ()
def tw12632016271404577398 : Unit := ()
def tw1189039478779863543 : Unit := ()
def tw5052799659242439232 : Unit := ()
def tw16805034177559845158 : Unit := ()
def tw613861444007158117 : Unit := ()
def tw4472537930952078071 : Unit := ()
def tw17280934540550334038 : Unit := ()
def tw6177595734901769131 : Unit := ()
def tw8391551869812157003 : Unit := ()
def tw2889411262573983594 : Unit := ()
def tw5135403995859087769 : Unit := ()
def tw5830704125695710028 : Unit := ()
def tw246117157325950751 : Unit := ()
def tw15245502266592019142 : Unit := ()
def tw3269307979865342360 : Unit := ()
def tw1145702957736299608 : Unit := ()
def tw1898251681536425393 : Unit := ()
def tw1576976573595981443 : Unit := ()
def tw15918488609901185216 : Unit := ()
def tw17616011970884437481 : Unit := ()
def tw6654759755052316995 : Unit := ()
def tw17950177247883546949 : Unit := ()
def tw11596806881159093634 : Unit := ()
def tw14600115731927012251 : Unit := ()
def tw13015838635976638328 : Unit := ()
def tw10378826219750612013 : Unit := ()
def tw16755620997228776517 : Unit := ()
def tw10215158489985848091 : Unit := ()
def tw1026541411913257890 : Unit := ()
def tw9544789235879666659 : Unit := ()
def tw3192300044853886499 : Unit := ()
def tw6987973993872831869 : Unit := ()
def tw16566191529524894353 : Unit := ()
def tw18444443567258718106 : Unit := ()
def tw1461524164644567005 : Unit := ()
def tw4657488745442613434 : Unit := ()
def tw5697475583681901305 : Unit := ()
def tw16236749535603272828 : Unit := ()
def tw11294528000197346895 : Unit := ()
def tw4086073440112619195 : Unit := ()
def tw3904318295217490542 : Unit := ()
def tw8345815458363914645 : Unit := ()
def tw3737738323408906904 : Unit := ()
def tw15002021747635217158 : Unit := ()
def tw14425069141629556820 : Unit := ()
def tw6049670863824981451 : Unit := ()
def tw13038139588562260259 : Unit := ()
def tw4478279676652616891 : Unit := ()
def tw10826115684197884286 : Unit := ()
def tw3189189419678998769 : Unit := ()
def tw3318881387644478671 : Unit := ()
def tw10650490639372488035 : Unit := ()
def tw15743342153617441410 : Unit := ()
def tw13326340739214046357 : Unit := ()
def tw684810653144086924 : Unit := ()
def tw6839451775307617150 : Unit := ()
def tw5821461118770653521 : Unit := ()
def tw5154843506026723524 : Unit := ()
def tw12037994792366043323 : Unit := ()
def tw4139085287830875285 : Unit := ()
def tw5244094127828372994 : Unit := ()
def tw9194068416744509746 : Unit := ()
def tw3850458487043261528 : Unit := ()
def tw1553741675195388523 : Unit := ()
def tw1674004582908800468 : Unit := ()
def tw17699253754099078538 : Unit := ()
def tw9108648141461919483 : Unit := ()
def tw16957430804977761875 : Unit := ()
def tw3195045472452297182 : Unit := ()
def tw16230012580999929183 : Unit := ()
def tw8051819146519264556 : Unit := ()
def tw10188483523016301514 : Unit := ()
def tw16309184068863907816 : Unit := ()
def tw6415928503069433107 : Unit := ()
def tw11546020951414354173 : Unit := ()
def tw16543126995476087224 : Unit := ()
def tw15441703254682512929 : Unit := ()
def tw11078984792821018929 : Unit := ()
def tw7623178406252462 : Unit := ()
def tw16550269932583171092 : Unit := ()
def tw11206303505464524440 : Unit := ()
def tw5459633942524607530 : Unit := ()
def tw13083037372812616501 : Unit := ()
def tw8592933995386855218 : Unit := ()
def tw1120720288178163291 : Unit := ()
def tw14665855279852098177 : Unit := ()
def tw9682961583958096268 : Unit := ()
def tw5546511947873468119 : Unit := ()
def tw1675822031730422300 : Unit := ()
def tw18293757085599415270 : Unit := ()
def tw8248751977778304154 : Unit := ()
def tw11481629018848390662 : Unit := ()
def tw15059474536475613536 : Unit := ()
def tw7995978743639958757 : Unit := ()
def tw5476766593548909784 : Unit := ()
def tw13577624098476238698 : Unit := ()
def tw17766108915487833345 : Unit := ()
def tw11719718986159330072 : Unit := ()
def tw18055956839715506412 : Unit := ()
def tw15637567348587133470 : Unit := ()
def tw17507339863231522498 : Unit := ()
def tw3288841532520645805 : Unit := ()
def tw16613626690667582918 : Unit := ()
def tw6299141836512012083 : Unit := ()
def tw352527553946020693 : Unit := ()
def tw8280945419676483923 : Unit := ()
def tw13358552846714131248 : Unit := ()
def tw9120485333712733179 : Unit := ()
def tw4058968699656797222 : Unit := ()
def tw9611862791660141016 : Unit := ()
def tw13850712857708151429 : Unit := ()
def tw10585462905240847857 : Unit := ()
def tw10789929793476969449 : Unit := ()
def tw7656961507247095479 : Unit := ()
def tw7609865365548401037 : Unit := ()
def tw5704703627589951924 : Unit := ()
def tw9642913188291750643 : Unit := ()
def tw438366980992855978 : Unit := ()
def tw3974159184253561374 : Unit := ()
def tw8882677997608764002 : Unit := ()
def tw12378863927358700870 : Unit := ()
def tw7426132974212407289 : Unit := ()
def tw9505821003340744582 : Unit := ()
def tw1106343141390378377 : Unit := ()
def tw10296644422186205035 : Unit := ()
def tw4064056164869058311 : Unit := ()
def tw1569167759154684139 : Unit := ()
def tw5405822796434246353 : Unit := ()
def tw14486509845308696146 : Unit := ()
def tw10320119253119833073 : Unit := ()
def tw15347756465185325122 : Unit := ()
def tw448228884880999817 : Unit := ()
def tw8175815033031399983 : Unit := ()
def tw11463841936005077477 : Unit := ()
def tw3497925034907349818 : Unit := ()
def tw17119748473493693396 : Unit := ()
def tw1502210534467124872 : Unit := ()
def tw3704115993316146538 : Unit := ()
def tw4508290750708871828 : Unit := ()
def tw6910875815065679005 : Unit := ()
def tw15205166912275644082 : Unit := ()
def tw5406728559635535288 : Unit := ()
def tw11274491320058552121 : Unit := ()
def tw6807212813107649956 : Unit := ()
def tw5931857049188391168 : Unit := ()
def tw9432833264435346114 : Unit := ()
def tw11559947853783239646 : Unit := ()
def tw9333486111150044595 : Unit := ()
def tw17440540566049560608 : Unit := ()
def tw13943119192238880607 : Unit := ()
def tw6750100638458334719 : Unit := ()
def tw8910658692769487521 : Unit := ()
def tw14503401618208899678 : Unit := ()
def tw16858098523796027539 : Unit := ()
def tw12848044898953219878 : Unit := ()
def tw10848675619744566853 : Unit := ()
def tw8778512126127734678 : Unit := ()
def tw12359145282682519592 : Unit := ()
def tw11849698557313907752 : Unit := ()
def tw12793357806674783465 : Unit := ()
def tw3192281219178648054 : Unit := ()
def tw11738447111423993316 : Unit := ()
def tw1043132485208530472 : Unit := ()
def tw5192114392933406665 : Unit := ()
def tw6349788284442390325 : Unit := ()
def tw15012208092755293496 : Unit := ()
def tw1929798811039547873 : Unit := ()
def tw3390260636150757133 : Unit := ()
def tw14016641483668023751 : Unit := ()
def tw11114328342828344315 : Unit := ()
def tw15014762558494988435 : Unit := ()
def tw329521250929862172 : Unit := ()
def tw9798057615417576542 : Unit := ()
def tw13353974442403848394 : Unit := ()
def tw18097300205078980897 : Unit := ()
def tw1273981217039018941 : Unit := ()
def tw5291399339736001598 : Unit := ()
def tw2975722144590462963 : Unit := ()
def tw1180972691280085015 : Unit := ()
def tw4453246142158915207 : Unit := ()
def tw5923536863074370369 : Unit := ()
def tw2258192475921812666 : Unit := ()
def tw14457486740208455950 : Unit := ()
def tw13548146605010630564 : Unit := ()
def tw7291691528909481485 : Unit := ()
def tw11728341170439313159 : Unit := ()
def tw13691568716131060407 : Unit := ()
def tw2824103446108438855 : Unit := ()
def tw18078082724486112160 : Unit := ()
def tw6156135152240404991 : Unit := ()
def tw4271787554731590783 : Unit := ()
def tw10790855333163460902 : Unit := ()
def tw10784910937193516590 : Unit := ()
def tw2635862328891724590 : Unit := ()
def tw5427609414046207185 : Unit := ()
def tw15173440750189971053 : Unit := ()
def tw2449831730607496686 : Unit := ()
def tw16757360411089000909 : Unit := ()
def tw7588065734108665298 : Unit := ()
def tw8109940221953592422 : Unit := ()
def tw17016021339473596573 : Unit := ()
def tw6730794197194715729 : Unit := ()
def tw17602884284618562758 : Unit := ()
def tw14485776579471354559 : Unit := ()
def tw3759675306495269863 : Unit := ()
def tw13672708140099921548 : Unit := ()
def tw16814093907036067240 : Unit := ()
def tw17881612008929905304 : Unit := ()
def tw3064020104184626679 : Unit := ()
def tw5737659778767011528 : Unit := ()
def tw17746975523925216154 : Unit := ()
def tw16920869692572701170 : Unit := ()
def tw13657874857853485661 : Unit := ()
def tw6637723353674977457 : Unit := ()
def tw9714399182280303370 : Unit := ()
def tw403433849048475672 : Unit := ()
def tw15721450103904511714 : Unit := ()
def tw15089439620822875391 : Unit := ()
def tw9421860765309472284 : Unit := ()
def tw966912965390647653 : Unit := ()
def tw10020776039088970272 : Unit := ()
def tw10144434307667540112 : Unit := ()
def tw11492500919683594925 : Unit := ()
def tw1477674067567528930 : Unit := ()
def tw14261479184874112115 : Unit := ()
def tw12441848402877897682 : Unit := ()
def tw11990679693074561087 : Unit := ()
def tw581591705659412360 : Unit := ()
def tw17820784173126948190 : Unit := ()
def tw17510063328239558717 : Unit := ()
def tw11135805265636202087 : Unit := ()
def tw10013169703201993727 : Unit := ()
def tw962929864702518930 : Unit := ()
def tw15844975735020934509 : Unit := ()
def tw13141244021075839775 : Unit := ()
def tw549330534072375192 : Unit := ()
def tw13259122166016436880 : Unit := ()
def tw18145983364989471964 : Unit := ()
def tw10823937689545340250 : Unit := ()
def tw11540208070827607989 : Unit := ()
def tw11369370219583665482 : Unit := ()
def tw14657619848553868428 : Unit := ()
def tw11514818361155592663 : Unit := ()
def tw546583199197935911 : Unit := ()
def tw4893810946250961487 : Unit := ()
def tw9554100874260118988 : Unit := ()
def tw17259401252653859908 : Unit := ()
def tw14994648939080602922 : Unit := ()
def tw11850127012206893593 : Unit := ()
def tw8879051148048159487 : Unit := ()
def tw3445752139033198540 : Unit := ()
def tw11595520717293016359 : Unit := ()
def tw14285223902976441531 : Unit := ()
def tw15834561353662106601 : Unit := ()
def tw14623526829092694077 : Unit := ()
def tw2944665439160954095 : Unit := ()
def tw16473443014310438354 : Unit := ()
def tw7370361157708992388 : Unit := ()
def tw4355809343503577651 : Unit := ()
def tw4336466602848723841 : Unit := ()
def tw5125627482415704248 : Unit := ()
def tw109179341524779392 : Unit := ()
def tw18356317982160672643 : Unit := ()
def tw219442131681807727 : Unit := ()
def tw17335688889858158536 : Unit := ()
def tw4840070987073810162 : Unit := ()
def tw93307586837075339 : Unit := ()
def tw14564361759762427303 : Unit := ()
def tw6727994423912641083 : Unit := ()
def tw5086605043684097800 : Unit := ()
def tw7545826416927626374 : Unit := ()
def tw3528302593184946913 : Unit := ()
def tw6465586366954125024 : Unit := ()
def tw9401910427825541464 : Unit := ()
def tw14884446435165349087 : Unit := ()
def tw18202459496640270309 : Unit := ()
def tw14165408314702828166 : Unit := ()
def tw2721662493584254205 : Unit := ()
def tw365122123236048703 : Unit := ()
def tw11188783262466597597 : Unit := ()
def tw8510456445351068404 : Unit := ()
def tw10456148590835155261 : Unit := ()
def tw3429462148525288237 : Unit := ()
def tw17509212614531084761 : Unit := ()
def tw7138865998705653129 : Unit := ()
def tw3726553668903033662 : Unit := ()
def tw11400593349331434668 : Unit := ()
def tw7750792843091279879 : Unit := ()
def tw14141542030839619405 : Unit := ()
def tw12255424343991987685 : Unit := ()
def tw14844854644923844120 : Unit := ()
def tw12270703178551837354 : Unit := ()
def tw1983975565442212412 : Unit := ()
def tw1710789470183295309 : Unit := ()
def tw15358425918863252176 : Unit := ()
def tw4643017077888490903 : Unit := ()
def tw12277759580935336033 : Unit := ()
def tw12751976081329016147 : Unit := ()
def tw825697407729231031 : Unit := ()
def tw17848536046058421400 : Unit := ()
def tw16710394203005558540 : Unit := ()
def tw10985920512821913780 : Unit := ()
def tw15919248928350439452 : Unit := ()
def tw4966103928266822408 : Unit := ()
def tw16806757684932487956 : Unit := ()
def tw11577555696166236556 : Unit := ()
def tw10423305162476263430 : Unit := ()
def tw12986164819757235730 : Unit := ()
def tw4443719658868117738 : Unit := ()
def tw17851660663064381485 : Unit := ()
def tw2103762752946727616 : Unit := ()
def tw11467456839206252081 : Unit := ()
def tw8509247252538607771 : Unit := ()
def tw16754107040114837579 : Unit := ()
def tw1372031470883533312 : Unit := ()
def tw11828668704146535789 : Unit := ()
def tw17142079616450204014 : Unit := ()
def tw16635678451559894086 : Unit := ()
def tw14905482151841669974 : Unit := ()
def tw16273643100532200502 : Unit := ()
def tw11977065498748116094 : Unit := ()
def tw286173689664319859 : Unit := ()
def tw230912023931473348 : Unit := ()
def tw11897711756129174407 : Unit := ()
def tw12078917003846765632 : Unit := ()
def tw3353834113435110318 : Unit := ()
def tw4128776862980440689 : Unit := ()
def tw4618644771026635682 : Unit := ()
def tw7407346153892864368 : Unit := ()
def tw15928783628084605059 : Unit := ()
def tw18260699203667912145 : Unit := ()
def tw11539710187299018808 : Unit := ()
def tw2904828168580712984 : Unit := ()
def tw16864271899000699076 : Unit := ()
def tw14153916554836524784 : Unit := ()
def tw5022806715654123246 : Unit := ()
def tw18214415547670025743 : Unit := ()
def tw10954031658222727571 : Unit := ()
def tw6368989462354362496 : Unit := ()
def tw2738817516795402928 : Unit := ()
def tw12399172185438853622 : Unit := ()
def tw4896017829543370582 : Unit := ()
def tw9844640629425573681 : Unit := ()
def tw12655080602837247723 : Unit := ()
def tw6324856198585077529 : Unit := ()
def tw17764949252250560912 : Unit := ()
def tw8197894304525550434 : Unit := ()
def tw10259423655706886459 : Unit := ()
def tw3846427529242828283 : Unit := ()
def tw14676080145724356502 : Unit := ()
def tw17711559939706290898 : Unit := ()
def tw16554288579361189178 : Unit := ()
def tw4347570711911631085 : Unit := ()
def tw9679699048720048136 : Unit := ()
def tw7519795588437618871 : Unit := ()
def tw13548434958720586885 : Unit := ()
def tw6059824681685874567 : Unit := ()
def tw15947915054767038083 : Unit := ()
def tw13348995606650637290 : Unit := ()
def tw4662490180987123166 : Unit := ()
def tw9025834271298662328 : Unit := ()
def tw11058232016014086444 : Unit := ()
def tw9444203629591001793 : Unit := ()
def tw2021212235774019113 : Unit := ()
def tw680371203410959027 : Unit := ()
def tw17004846682779200441 : Unit := ()
def tw2255129638634296661 : Unit := ()
def tw11574562204770423320 : Unit := ()
def tw10526196203498550538 : Unit := ()
def tw2171913355115832309 : Unit := ()
def tw17712400418290889387 : Unit := ()
def tw15196611208350480858 : Unit := ()
def tw6626976139471146559 : Unit := ()
def tw7581401677555354561 : Unit := ()
def tw8891408288554793129 : Unit := ()
def tw9455423150913749809 : Unit := ()
def tw11465123135715234376 : Unit := ()
def tw13605469866490008096 : Unit := ()
def tw16244838823964351677 : Unit := ()
def tw3315436992917085902 : Unit := ()
def tw8265175278899670995 : Unit := ()
def tw11226730239798241307 : Unit := ()
def tw13576060516916381188 : Unit := ()
def tw2977005963610773856 : Unit := ()
def tw3525059754802726614 : Unit := ()
def tw17290748895957292268 : Unit := ()
def tw3726480030541509799 : Unit := ()
def tw14994709153613609165 : Unit := ()
def tw11853822200120212353 : Unit := ()
def tw3855719658767740073 : Unit := ()
end PySem.W.Fast
open PySem PySem.W PyProof.Rows
set_option maxRecDepth 100000 in
set_option maxHeartbeats 0 in
theorem PySem.Challenge.cw_cagebells_k24_gates_turned_holds : PySem.Challenge.rw_cagebells_k24_gates_turned.Holds := by
  w_on; o_law; k_head; (case hw => w_witness2)
  k_fill
  refine K24.walk (l := PySem.Challenge.rw_cagebells_k24_gates_turned) rfl rfl (fun w h Y => PySem.W.kIn_of Y) ?F
  case F =>
    intro w mg fa h KX G hmg
    refine' K24.all_mk KX G hmg ?a_is_known ?l_is_known ?c_is_known ?k_is_known ?a_check_level ?l_check_level ?c_check_level ?k_check_level ?a_check_load ?l_check_load ?c_check_load ?k_check_load ?a_check_loads ?l_check_loads ?c_check_loads ?k_check_loads ?a_Yard_init ?fn_Yard_init ?mk_Yard_init ?kc_Yard_init ?l_Yard_init ?c_Yard_init ?k_Yard_init ?a_Yard_men_aboard ?fn_Yard_men_aboard ?l_Yard_men_aboard ?c_Yard_men_aboard ?k_Yard_men_aboard ?a_Yard_twin ?fn_Yard_twin ?l_Yard_twin ?c_Yard_twin ?k_Yard_twin ?a_are_strokes ?l_are_strokes ?c_are_strokes ?k_are_strokes ?a_check_codes ?l_check_codes ?c_check_codes ?k_check_codes ?a_Bells_init ?fn_Bells_init ?mk_Bells_init ?kc_Bells_init ?l_Bells_init ?c_Bells_init ?k_Bells_init ?a_Bells_twin ?fn_Bells_twin ?l_Bells_twin ?c_Bells_twin ?k_Bells_twin ?a_check_depths ?l_check_depths ?c_check_depths ?k_check_depths ?a_drum_whole ?l_drum_whole ?c_drum_whole ?k_drum_whole ?a_other_place ?l_other_place ?c_other_place ?k_other_place ?a_level_at ?l_level_at ?c_level_at ?k_level_at ?a_check_speeds ?l_check_speeds ?c_check_speeds ?k_check_speeds ?a_Standing_init ?fn_Standing_init ?mk_Standing_init ?kc_Standing_init ?l_Standing_init ?c_Standing_init ?k_Standing_init ?a_Standing_twin ?fn_Standing_twin ?l_Standing_twin ?c_Standing_twin ?k_Standing_twin ?a_Book_init ?fn_Book_init ?mk_Book_init ?kc_Book_init ?l_Book_init ?c_Book_init ?k_Book_init ?a_Book_write ?fn_Book_write ?l_Book_write ?c_Book_write ?k_Book_write ?a_Book_now ?fn_Book_now ?l_Book_now ?c_Book_now ?k_Book_now ?a_Book_latest ?fn_Book_latest ?l_Book_latest ?c_Book_latest ?k_Book_latest ?a_Book_told ?fn_Book_told ?l_Book_told ?c_Book_told ?k_Book_told ?a_Works_init ?fn_Works_init ?mk_Works_init ?kc_Works_init ?l_Works_init ?c_Works_init ?k_Works_init ?a_Works_open_gate ?fn_Works_open_gate ?l_Works_open_gate ?c_Works_open_gate ?k_Works_open_gate ?a_Works_shut_gate ?fn_Works_shut_gate ?l_Works_shut_gate ?c_Works_shut_gate ?k_Works_shut_gate ?a_Works_turn_gate ?fn_Works_turn_gate ?l_Works_turn_gate ?c_Works_turn_gate ?k_Works_turn_gate ?a_Works_write ?fn_Works_write ?l_Works_write ?c_Works_write ?k_Works_write ?a_Works_speed_with ?fn_Works_speed_with ?l_Works_speed_with ?c_Works_speed_with ?k_Works_speed_with ?a_Works_now ?fn_Works_now ?l_Works_now ?c_Works_now ?k_Works_now ?a_Works_book ?fn_Works_book ?l_Works_book ?c_Works_book ?k_Works_book ?a_Works_gates ?fn_Works_gates ?l_Works_gates ?c_Works_gates ?k_Works_gates ?a_l_at ?l_l_at ?c_l_at ?k_l_at ?a_l_draw ?l_l_draw ?c_l_draw ?k_l_draw ?a_l_mixed ?l_l_mixed ?c_l_mixed ?k_l_mixed ?a_l_same ?l_l_same ?c_l_same ?k_l_same ?a_l_depths ?l_l_depths ?c_l_depths ?k_l_depths ?a_l_codes ?l_l_codes ?c_l_codes ?k_l_codes ?a_l_shaft ?l_l_shaft ?c_l_shaft ?k_l_shaft ?a_l_turned ?l_l_turned ?c_l_turned ?k_l_turned ?a_law ?l_law ?c_law ?k_law ?z_len ?z_zip ?z_list ?z_range ?z_isinstance ?z_tuple ?z_int ?z_str ?z_bool ?z_min ?n_MOST_LOADS ?n_FEWEST_STROKES ?n_MOST_STROKES ?n_FEWEST_LEVELS ?n_MOST_LEVELS ?n_GREATEST_DEPTH ?n_GREATEST_SPEED ?n_MOST_DEEDS ?n_CAGE_SPOTS ?lt_CAGE_SPOTS ?m_UnknownLevel ?m_UnknownLoad ?m_BadLoads ?m_BadCodes ?m_BadDepths ?m_BadSpeeds ?m_BookFull ?m_NoChange ?m_CageError ?m_Yard ?m_Bells ?m_Standing ?m_Book ?m_Works ?pg_Yard ?hd_Yard ?po_Yard ?sa_Yard ?na_Yard_kinds ?na_Yard_where ?na_Yard_many ?pg_Bells ?hd_Bells ?po_Bells ?sa_Bells ?na_Bells_codes ?na_Bells_failed ?na_Bells_state ?pg_Standing ?hd_Standing ?po_Standing ?sa_Standing ?na_Standing_place ?na_Standing_opened ?na_Standing_bells ?na_Standing_yard ?pg_Book ?hd_Book ?po_Book ?sa_Book ?na_Book_first ?na_Book_most ?na_Book_rows ?pg_Works ?hd_Works ?po_Works ?sa_Works ?na_Works_depths ?na_Works_slow ?na_Works_fast ?na_Works_goals ?na_Works_log ?l0_0 ?e0_0 ?lN0_0 ?kN0_0 ?iN0_0 ?lC_UnknownLevel ?lN_UnknownLevel ?kN_UnknownLevel ?iN_UnknownLevel ?ca_UnknownLevel ?mo_UnknownLevel ?ex_UnknownLevel_CageError ?kt_UnknownLevel_NoChange ?kt_UnknownLevel_UnknownLevel ?lC_UnknownLoad ?lN_UnknownLoad ?kN_UnknownLoad ?iN_UnknownLoad ?ca_UnknownLoad ?mo_UnknownLoad ?ex_UnknownLoad_CageError ?kt_UnknownLoad_NoChange ?kt_UnknownLoad_UnknownLevel ?lC_BadLoads ?lN_BadLoads ?kN_BadLoads ?iN_BadLoads ?ca_BadLoads ?mo_BadLoads ?ex_BadLoads_CageError ?kt_BadLoads_NoChange ?kt_BadLoads_UnknownLevel ?lC_BadCodes ?lN_BadCodes ?kN_BadCodes ?iN_BadCodes ?ca_BadCodes ?mo_BadCodes ?ex_BadCodes_CageError ?kt_BadCodes_NoChange ?kt_BadCodes_UnknownLevel ?lC_BadDepths ?lN_BadDepths ?kN_BadDepths ?iN_BadDepths ?ca_BadDepths ?mo_BadDepths ?ex_BadDepths_CageError ?kt_BadDepths_NoChange ?kt_BadDepths_UnknownLevel ?lC_BadSpeeds ?lN_BadSpeeds ?kN_BadSpeeds ?iN_BadSpeeds ?ca_BadSpeeds ?mo_BadSpeeds ?ex_BadSpeeds_CageError ?kt_BadSpeeds_NoChange ?kt_BadSpeeds_UnknownLevel ?lC_BookFull ?lN_BookFull ?kN_BookFull ?iN_BookFull ?ca_BookFull ?mo_BookFull ?ex_BookFull_CageError ?kt_BookFull_NoChange ?kt_BookFull_UnknownLevel ?lC_NoChange ?lN_NoChange ?kN_NoChange ?iN_NoChange ?ca_NoChange ?mo_NoChange ?ex_NoChange_CageError ?kt_NoChange_NoChange ?kt_NoChange_UnknownLevel
    (case m_UnknownLevel => k_is)
    (case m_UnknownLoad => k_is)
    (case m_BadLoads => k_is)
    (case m_BadCodes => k_is)
    (case m_BadDepths => k_is)
    (case m_BadSpeeds => k_is)
    (case m_BookFull => k_is)
    (case m_NoChange => k_is)
    (case m_CageError => k_is)
    (case m_Yard => k_is)
    (case m_Bells => k_is)
    (case m_Standing => k_is)
    (case m_Book => k_is)
    (case m_Works => k_is)
    (case a_is_known => k_is)
    (case l_is_known => k_is)
    (case c_is_known => k_is)
    (case k_is_known => k_is)
    (case a_check_level => k_is)
    (case l_check_level => k_is)
    (case c_check_level => k_is)
    (case k_check_level => k_is)
    (case a_check_load => k_is)
    (case l_check_load => k_is)
    (case c_check_load => k_is)
    (case k_check_load => k_is)
    (case a_check_loads => k_is)
    (case l_check_loads => k_is)
    (case c_check_loads => k_is)
    (case k_check_loads => k_is)
    (case a_Yard_init => k_is)
    (case fn_Yard_init => k_is)
    (case mk_Yard_init => k_is)
    (case kc_Yard_init => k_is)
    (case l_Yard_init => k_is)
    (case c_Yard_init => k_is)
    (case k_Yard_init => k_is)
    (case a_Yard_men_aboard => k_is)
    (case fn_Yard_men_aboard => k_is)
    (case l_Yard_men_aboard => k_is)
    (case c_Yard_men_aboard => k_is)
    (case k_Yard_men_aboard => k_is)
    (case a_Yard_twin => k_is)
    (case fn_Yard_twin => k_is)
    (case l_Yard_twin => k_is)
    (case c_Yard_twin => k_is)
    (case k_Yard_twin => k_is)
    (case a_are_strokes => k_is)
    (case l_are_strokes => k_is)
    (case c_are_strokes => k_is)
    (case k_are_strokes => k_is)
    (case a_check_codes => k_is)
    (case l_check_codes => k_is)
    (case c_check_codes => k_is)
    (case k_check_codes => k_is)
    (case a_Bells_init => k_is)
    (case fn_Bells_init => k_is)
    (case mk_Bells_init => k_is)
    (case kc_Bells_init => k_is)
    (case l_Bells_init => k_is)
    (case c_Bells_init => k_is)
    (case k_Bells_init => k_is)
    (case a_Bells_twin => k_is)
    (case fn_Bells_twin => k_is)
    (case l_Bells_twin => k_is)
    (case c_Bells_twin => k_is)
    (case k_Bells_twin => k_is)
    (case a_check_depths => k_is)
    (case l_check_depths => k_is)
    (case c_check_depths => k_is)
    (case k_check_depths => k_is)
    (case a_drum_whole => k_is)
    (case l_drum_whole => k_is)
    (case c_drum_whole => k_is)
    (case k_drum_whole => k_is)
    (case a_other_place => k_is)
    (case l_other_place => k_is)
    (case c_other_place => k_is)
    (case k_other_place => k_is)
    (case a_level_at => k_is)
    (case l_level_at => k_is)
    (case c_level_at => k_is)
    (case k_level_at => k_is)
    (case a_check_speeds => k_is)
    (case l_check_speeds => k_is)
    (case c_check_speeds => k_is)
    (case k_check_speeds => k_is)
    (case a_Standing_init => k_is)
    (case fn_Standing_init => k_is)
    (case mk_Standing_init => k_is)
    (case kc_Standing_init => k_is)
    (case l_Standing_init => k_is)
    (case c_Standing_init => k_is)
    (case k_Standing_init => k_is)
    (case a_Standing_twin => k_is)
    (case fn_Standing_twin => k_is)
    (case l_Standing_twin => k_is)
    (case c_Standing_twin => k_is)
    (case k_Standing_twin => k_is)
    (case a_Book_init => k_is)
    (case fn_Book_init => k_is)
    (case mk_Book_init => k_is)
    (case kc_Book_init => k_is)
    (case l_Book_init => k_is)
    (case c_Book_init => k_is)
    (case k_Book_init => k_is)
    (case a_Book_write => k_is)
    (case fn_Book_write => k_is)
    (case l_Book_write => k_is)
    (case c_Book_write => k_is)
    (case k_Book_write => k_is)
    (case a_Book_now => k_is)
    (case fn_Book_now => k_is)
    (case l_Book_now => k_is)
    (case c_Book_now => k_is)
    (case k_Book_now => k_is)
    (case a_Book_latest => k_is)
    (case fn_Book_latest => k_is)
    (case l_Book_latest => k_is)
    (case c_Book_latest => k_is)
    (case k_Book_latest => k_is)
    (case a_Book_told => k_is)
    (case fn_Book_told => k_is)
    (case l_Book_told => k_is)
    (case c_Book_told => k_is)
    (case k_Book_told => k_is)
    (case a_Works_init => k_is)
    (case fn_Works_init => k_is)
    (case mk_Works_init => k_is)
    (case kc_Works_init => k_is)
    (case l_Works_init => k_is)
    (case c_Works_init => k_is)
    (case k_Works_init => k_is)
    (case a_Works_open_gate => k_is)
    (case fn_Works_open_gate => k_is)
    (case l_Works_open_gate => k_is)
    (case c_Works_open_gate => k_is)
    (case k_Works_open_gate => k_is)
    (case a_Works_shut_gate => k_is)
    (case fn_Works_shut_gate => k_is)
    (case l_Works_shut_gate => k_is)
    (case c_Works_shut_gate => k_is)
    (case k_Works_shut_gate => k_is)
    (case a_Works_turn_gate => k_is)
    (case fn_Works_turn_gate => k_is)
    (case l_Works_turn_gate => k_is)
    (case c_Works_turn_gate => k_is)
    (case k_Works_turn_gate => k_is)
    (case a_Works_write => k_is)
    (case fn_Works_write => k_is)
    (case l_Works_write => k_is)
    (case c_Works_write => k_is)
    (case k_Works_write => k_is)
    (case a_Works_speed_with => k_is)
    (case fn_Works_speed_with => k_is)
    (case l_Works_speed_with => k_is)
    (case c_Works_speed_with => k_is)
    (case k_Works_speed_with => k_is)
    (case a_Works_now => k_is)
    (case fn_Works_now => k_is)
    (case l_Works_now => k_is)
    (case c_Works_now => k_is)
    (case k_Works_now => k_is)
    (case a_Works_book => k_is)
    (case fn_Works_book => k_is)
    (case l_Works_book => k_is)
    (case c_Works_book => k_is)
    (case k_Works_book => k_is)
    (case a_Works_gates => k_is)
    (case fn_Works_gates => k_is)
    (case l_Works_gates => k_is)
    (case c_Works_gates => k_is)
    (case k_Works_gates => k_is)
    (case a_l_at => k_is)
    (case l_l_at => k_is)
    (case c_l_at => k_is)
    (case k_l_at => k_is)
    (case a_l_draw => k_is)
    (case l_l_draw => k_is)
    (case c_l_draw => k_is)
    (case k_l_draw => k_is)
    (case a_l_mixed => k_is)
    (case l_l_mixed => k_is)
    (case c_l_mixed => k_is)
    (case k_l_mixed => k_is)
    (case a_l_same => k_is)
    (case l_l_same => k_is)
    (case c_l_same => k_is)
    (case k_l_same => k_is)
    (case a_l_depths => k_is)
    (case l_l_depths => k_is)
    (case c_l_depths => k_is)
    (case k_l_depths => k_is)
    (case a_l_codes => k_is)
    (case l_l_codes => k_is)
    (case c_l_codes => k_is)
    (case k_l_codes => k_is)
    (case a_l_shaft => k_is)
    (case l_l_shaft => k_is)
    (case c_l_shaft => k_is)
    (case k_l_shaft => k_is)
    (case a_l_turned => k_is)
    (case l_l_turned => k_is)
    (case c_l_turned => k_is)
    (case k_l_turned => k_is)
    (case a_law => k_is)
    (case l_law => k_is)
    (case c_law => k_is)
    (case k_law => k_is)
    (case z_len => k_is)
    (case z_zip => k_is)
    (case z_list => k_is)
    (case z_range => k_is)
    (case z_isinstance => k_is)
    (case z_tuple => k_is)
    (case z_int => k_is)
    (case z_str => k_is)
    (case z_bool => k_is)
    (case z_min => k_is)
    (case n_MOST_LOADS => k_is)
    (case n_FEWEST_STROKES => k_is)
    (case n_MOST_STROKES => k_is)
    (case n_FEWEST_LEVELS => k_is)
    (case n_MOST_LEVELS => k_is)
    (case n_GREATEST_DEPTH => k_is)
    (case n_GREATEST_SPEED => k_is)
    (case n_MOST_DEEDS => k_is)
    (case n_CAGE_SPOTS => k_is)
    (case lt_CAGE_SPOTS => k_is)
    (case pg_Yard => k_is)
    (case hd_Yard => k_is)
    (case po_Yard => k_is)
    (case sa_Yard => k_is)
    (case na_Yard_kinds => k_is)
    (case na_Yard_where => k_is)
    (case na_Yard_many => k_is)
    (case pg_Bells => k_is)
    (case hd_Bells => k_is)
    (case po_Bells => k_is)
    (case sa_Bells => k_is)
    (case na_Bells_codes => k_is)
    (case na_Bells_failed => k_is)
    (case na_Bells_state => k_is)
    (case pg_Standing => k_is)
    (case hd_Standing => k_is)
    (case po_Standing => k_is)
    (case sa_Standing => k_is)
    (case na_Standing_place => k_is)
    (case na_Standing_opened => k_is)
    (case na_Standing_bells => k_is)
    (case na_Standing_yard => k_is)
    (case pg_Book => k_is)
    (case hd_Book => k_is)
    (case po_Book => k_is)
    (case sa_Book => k_is)
    (case na_Book_first => k_is)
    (case na_Book_most => k_is)
    (case na_Book_rows => k_is)
    (case pg_Works => k_is)
    (case hd_Works => k_is)
    (case po_Works => k_is)
    (case sa_Works => k_is)
    (case na_Works_depths => k_is)
    (case na_Works_slow => k_is)
    (case na_Works_fast => k_is)
    (case na_Works_goals => k_is)
    (case na_Works_log => k_is)
    (case l0_0 => k_is)
    (case e0_0 => exact rfl)
    (case lN0_0 => k_is)
    (case kN0_0 => exact rfl)
    (case iN0_0 => exact rfl)
    (case lC_UnknownLevel => k_is)
    (case lN_UnknownLevel => k_is)
    (case kN_UnknownLevel => exact rfl)
    (case iN_UnknownLevel => exact rfl)
    (case ca_UnknownLevel => k_is)
    (case mo_UnknownLevel => k_is)
    (case ex_UnknownLevel_CageError => kts_exm)
    (case kt_UnknownLevel_NoChange => kit_is)
    (case kt_UnknownLevel_UnknownLevel => kit_is)
    (case lC_UnknownLoad => k_is)
    (case lN_UnknownLoad => k_is)
    (case kN_UnknownLoad => exact rfl)
    (case iN_UnknownLoad => exact rfl)
    (case ca_UnknownLoad => k_is)
    (case mo_UnknownLoad => k_is)
    (case ex_UnknownLoad_CageError => kts_exm)
    (case kt_UnknownLoad_NoChange => kit_is)
    (case kt_UnknownLoad_UnknownLevel => kit_is)
    (case lC_BadLoads => k_is)
    (case lN_BadLoads => k_is)
    (case kN_BadLoads => exact rfl)
    (case iN_BadLoads => exact rfl)
    (case ca_BadLoads => k_is)
    (case mo_BadLoads => k_is)
    (case ex_BadLoads_CageError => kts_exm)
    (case kt_BadLoads_NoChange => kit_is)
    (case kt_BadLoads_UnknownLevel => kit_is)
    (case lC_BadCodes => k_is)
    (case lN_BadCodes => k_is)
    (case kN_BadCodes => exact rfl)
    (case iN_BadCodes => exact rfl)
    (case ca_BadCodes => k_is)
    (case mo_BadCodes => k_is)
    (case ex_BadCodes_CageError => kts_exm)
    (case kt_BadCodes_NoChange => kit_is)
    (case kt_BadCodes_UnknownLevel => kit_is)
    (case lC_BadDepths => k_is)
    (case lN_BadDepths => k_is)
    (case kN_BadDepths => exact rfl)
    (case iN_BadDepths => exact rfl)
    (case ca_BadDepths => k_is)
    (case mo_BadDepths => k_is)
    (case ex_BadDepths_CageError => kts_exm)
    (case kt_BadDepths_NoChange => kit_is)
    (case kt_BadDepths_UnknownLevel => kit_is)
    (case lC_BadSpeeds => k_is)
    (case lN_BadSpeeds => k_is)
    (case kN_BadSpeeds => exact rfl)
    (case iN_BadSpeeds => exact rfl)
    (case ca_BadSpeeds => k_is)
    (case mo_BadSpeeds => k_is)
    (case ex_BadSpeeds_CageError => kts_exm)
    (case kt_BadSpeeds_NoChange => kit_is)
    (case kt_BadSpeeds_UnknownLevel => kit_is)
    (case lC_BookFull => k_is)
    (case lN_BookFull => k_is)
    (case kN_BookFull => exact rfl)
    (case iN_BookFull => exact rfl)
    (case ca_BookFull => k_is)
    (case mo_BookFull => k_is)
    (case ex_BookFull_CageError => kts_exm)
    (case kt_BookFull_NoChange => kit_is)
    (case kt_BookFull_UnknownLevel => kit_is)
    (case lC_NoChange => k_is)
    (case lN_NoChange => k_is)
    (case kN_NoChange => exact rfl)
    (case iN_NoChange => exact rfl)
    (case ca_NoChange => k_is)
    (case mo_NoChange => k_is)
    (case ex_NoChange_CageError => kts_exm)
    (case kt_NoChange_NoChange => kit_is)
    (case kt_NoChange_UnknownLevel => kit_is)
